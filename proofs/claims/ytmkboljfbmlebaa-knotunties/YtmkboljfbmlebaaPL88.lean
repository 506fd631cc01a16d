/- What knotUnties_holds stands on, part 8: each part says what it proves. No condition beside those that it names. -/
import Derived.Test.YtmkboljfbmlebaaPL87
import Derived.Laws.Tables
/- Contracts of the document side of the queues. Condition: the payments lie in memory that is known. -/
namespace Go.Proofs.Ytmkboljfbmlebaa
open Go.RowKit
set_option linter.unusedSimpArgs false
set_option linter.unusedVariables false
set_option maxRecDepth 100000
attribute [local irreducible] cC sC nC rC qw

theorem gr_QueueOf (h : H) (ps : List PayS) (bank : Int) (w : World) (hp : PaysIn (At w) h.pa h.pl ps) (hb : h.pl * 48 ≤ 281474976710656) (hlc : h.pl ≤ h.pc) : GivesE Try.prog 37 [.agg h.cells, I bank] w (fun v E => ListE 3 1 v (queueM ps bank).length ((queueM ps bank).map I) E) := by
  refine givesE_of Try.func37 rfl Try.ntmps37 (by simp) ?_
  refine r_seq (by kernel_rfl) ?_
  refine s_box (v := .agg _) rfl (fun b2 => ?_)
  refine s_val (v_assign (v := .slice _ _ _) rfl) ?_
  refine s_nil ?_
  refine r_seq (by kernel_rfl) ?_
  refine s_val (v_assign (v := .slice _ _ _) rfl) ?_
  refine s_nil ?_
  refine r_seq (by kernel_rfl) ?_
  refine s_makeSet (fun b10 => ?_)
  refine s_val (v_assign (v := .map _) rfl) ?_
  refine s_nil ?_
  refine c_seq ?_
  refine r_seq (by kernel_rfl) ?_
  refine s_val (v_field (fo := 40) (by kernel_rfl) rfl) ?_
  refine s_val (v_load1 (v := .slice _ _ _) (by kernel_rfl) rfl (.there .here) (H.at_pays _)) ?_
  refine s_val (v_lenS (T := 27) (m := 6) (by kernel_rfl) rfl rfl) ?_
  refine s_val (v_move (v := .int .i64 _) rfl) ?_
  refine s_nil ?_
  refine c_block ?_
  refine c_loop (σ := Nat × Value × List (Nat × Obj)) (fun ((k, v, E) : Nat × Value × List (Nat × Obj)) f => ∃ g, (k ≤ h.pl ∧ ListE 3 1 v (queueTo ps bank k).length ((queueTo ps bank k).map I) E) ∧ f = (upd (upd (upd (upd (upd (upd g 1 (I bank)) 2 (.pointer (some ⟨b2, 0, none⟩))) 5 (v)) 6 (.map (some b10))) 13 (I h.pl)) 14 (I k))) (fun ((k, v, E) : Nat × Value × List (Nat × Obj)) => Has w (At w) (E ++ [(b10, setO (queueTo ps bank k)), (b2, .cells h.cells 29)])) (fun ((k, v, E) : Nat × Value × List (Nat × Obj)) => h.pl - k) (0, .slice none 0 0, []) ⟨_, ⟨Nat.zero_le _, listE_nil _ _⟩, live6 rfl rfl rfl rfl rfl rfl⟩ (fun w hw => hw) ?_
  rintro ⟨k, v, E⟩ _ ⟨g, ⟨hkl, hE⟩, rfl⟩
  refine r_seq (by kernel_rfl) ?_
  refine s_val (v_lss (k := .i64) rfl rfl) ?_
  refine s_nil ?_
  refine c_seq ?_
  refine c_condR rfl rfl (fun h15 => ?_) (fun h15 => ?_)
  · obtain rfl : k = h.pl := by have := of_decide_eq_false h15; omega
    refine c_exit ?_
    refine n_exit ?_
    refine n_exit ?_
    refine n_bhere ?_
    refine n_then ?_
    refine r_seq (by kernel_rfl) ?_
    refine s_val (v_move (v := _) rfl) ?_
    refine s_val (v_assign (v := _) rfl) ?_
    refine s_nil ?_
    refine c_ret ?_
    refine n_doneE rfl (by decide) ?_
    show ListE _ _ v _ _ E
    unfold queueM
    rw [hp.1]
    exact hE
  have hk0 := of_decide_eq_true h15
  have hql := queueTo_len ps bank k
  refine c_skip ?_
  refine n_then ?_
  refine c_seq ?_
  refine c_block ?_
  refine r_seq (by kernel_rfl) ?_
  refine s_val (v_assign (v := .int .i64 _) rfl) ?_
  refine s_nil ?_
  refine c_seq ?_
  refine r_seq (by kernel_rfl) ?_
  refine s_val (v_field (fo := 40) (by kernel_rfl) rfl) ?_
  refine s_val (v_load1 (v := .slice _ _ _) (by kernel_rfl) rfl (.app (.there .here)) (H.at_pays _)) ?_
  refine s_val (v_lenS (T := 27) (m := 6) (by kernel_rfl) rfl rfl) ?_
  refine s_val (v_move (v := .int .i64 _) rfl) ?_
  refine s_nil ?_
  refine c_block ?_
  refine c_loop (σ := Nat) (fun (m : Nat) f => ∃ g, (m ≤ h.pl) ∧ f = (upd (upd (upd (upd (upd (upd (upd (upd (upd (upd g 1 (I bank)) 2 (.pointer (some ⟨b2, 0, none⟩))) 5 (v)) 6 (.map (some b10))) 7 (I (bestTo ps bank (queueTo ps bank k) m))) 13 (I h.pl)) 14 (I k)) 17 (.slice h.pa h.pl h.pc)) 18 (I h.pl)) 19 (I m))) (fun (m : Nat) => Has w (At w) (E ++ [(b10, setO (queueTo ps bank k)), (b2, .cells h.cells 29)])) (fun (m : Nat) => h.pl - m) 0 ⟨_, Nat.zero_le _, live10 rfl rfl rfl rfl rfl rfl rfl rfl rfl rfl⟩ (fun w hw => hw) ?_
  rintro m _ ⟨g, hml, rfl⟩
  refine r_seq (by kernel_rfl) ?_
  refine s_val (v_lss (k := .i64) rfl rfl) ?_
  refine s_nil ?_
  refine c_seq ?_
  refine c_condR rfl rfl (fun h20 => ?_) (fun h20 => ?_)
  · obtain rfl : m = h.pl := by have := of_decide_eq_false h20; omega
    refine c_exit ?_
    refine n_exit ?_
    refine n_exit ?_
    refine n_bhere ?_
    refine n_then ?_
    refine r_seq (by kernel_rfl) ?_
    refine s_val (v_move (v := .int .i64 _) rfl) ?_
    refine s_val (v_geq (k := .i64) rfl rfl) ?_
    refine s_nil ?_
    refine c_condR rfl rfl (fun h76 => ?_) (fun h76 => ?_)
    · have hno : decide (0 ≤ bestTo ps bank (queueTo ps bank k) ps.length) = false := by rw [hp.1]; exact h76
      refine c_skip ?_
      refine n_bnormal ?_
      refine n_then ?_
      refine r_list (by kernel_rfl) ?_
      refine s_val (v_add rfl rfl (by omega)) ?_
      refine s_val (v_move (v := .int .i64 _) rfl) ?_
      refine s_end ?_
      refine n_round (s := (k, v, E)) (k + 1, v, E) ⟨_, ⟨by omega, by rw [queueTo_no hno]; exact hE⟩, live6 rfl rfl rfl rfl rfl rfl⟩ (fun _ hw => by dsimp only; rw [queueTo_no hno]; exact hw) (by dsimp only; omega)
    have hyes : decide (0 ≤ bestTo ps bank (queueTo ps bank k) ps.length) = true := by rw [hp.1]; exact h76
    have hmine := best_mine ps bank (queueTo ps bank k) ps.length (of_decide_eq_true hyes)
    rw [hp.1] at hmine
    refine r_seq (by kernel_rfl) ?_
    refine s_val (v_move (v := .map _) rfl) ?_
    refine s_val (v_move (v := .int .i64 _) rfl) ?_
    refine s_setAdd (by kernel_rfl) rfl rfl rfl (.app .here) hmine.2 ?_
    refine s_nil ?_
    refine r_list (by kernel_rfl) ?_
    refine s_val (v_move (v := _) rfl) ?_
    refine s_val (v_move (v := .int .i64 _) rfl) ?_
    refine s_build1 (v := .int .i64 _) (e := 3) (m := 1) (by_ := 8) (by kernel_rfl) rfl rfl rfl (fill_scalar rfl) (fun b81 => ?_)
    refine s_push (e := 3) (m := 1) (by_ := 8) (by kernel_rfl) rfl rfl rfl rfl rfl hE rfl (all_scalar rfl rfl) (by omega) (fun v82 E82 hE82 => ?_)
    refine s_val (v_assign (v := _) rfl) ?_
    refine s_end ?_
    refine n_bnormal ?_
    refine n_then ?_
    refine r_list (by kernel_rfl) ?_
    refine s_val (v_add rfl rfl (by omega)) ?_
    refine s_val (v_move (v := .int .i64 _) rfl) ?_
    refine s_end ?_
    refine n_round (s := (k, v, E)) (k + 1, v82, E82) ⟨_, ⟨by omega, by rw [queueTo_yes hyes, List.map_append, List.length_append, hp.1]; exact hE82⟩, live6 rfl rfl rfl rfl rfl rfl⟩ (fun _ hw => by dsimp only; rw [queueTo_yes hyes, hp.1]; exact hw) (by dsimp only; omega)
  have hm0 := of_decide_eq_true h20
  obtain ⟨p, hpm, hd, ht⟩ := hp.get (k := m) (by omega)
  obtain ⟨b, o, hpa, hc⟩ := hp.some (k := m) (by omega)
  refine c_skip ?_
  refine n_then ?_
  refine c_seq ?_
  refine c_block ?_
  refine r_seq (by kernel_rfl) ?_
  refine s_val (v_move (v := .int .i64 _) rfl) ?_
  refine s_val (v_idxS (size := 6) (k := .i64) (by kernel_rfl) (congrArg (fun a => Value.slice a h.pl h.pc) hpa) rfl ⟨by omega, by omega⟩) ?_
  refine s_val (v_loadNo (cs := p.cells) (m := 6) (by kernel_rfl) rfl rfl (hc m p hpm)) ?_
  refine s_alloc (z := zeroOf Try.prog 36) (by kernel_rfl) (fun b9 => ?_)
  refine s_val (v_assign (v := .int .i64 _) rfl) ?_
  refine s_storeA (m := 6) (by kernel_rfl) rfl rfl .here (by kernel_rfl) rfl (PayS.all1 _) ?_
  refine s_nil ?_
  refine c_seq ?_
  refine r_seq (by kernel_rfl) ?_
  refine s_val (v_field (fo := 4) (by kernel_rfl) rfl) ?_
  refine s_val (v_load1 (v := .int .i64 _) (by kernel_rfl) rfl .here rfl) ?_
  refine s_val (v_neq (k := .i64) rfl rfl) ?_
  refine s_val (v_move (v := .bool _) rfl) ?_
  refine s_splitN (s := 27) rfl (fun h27 => ?_) (fun h27 => ?_)
  · refine s_pass rfl rfl (congrArg not h27) ?_
    refine s_pass rfl rfl (congrArg not h27) ?_
    refine s_pass rfl rfl (congrArg not h27) ?_
    refine s_pass rfl rfl (congrArg not h27) ?_
    refine s_val (v_pickT (v := .bool _) rfl (congrArg not h27) rfl) ?_
    refine s_val (v_move (v := .bool _) rfl) ?_
    refine s_pass (g := true) rfl rfl rfl ?_
    refine s_pass (g := true) rfl rfl rfl ?_
    refine s_pass (g := true) rfl rfl rfl ?_
    refine s_val (v_pickT (v := .bool _) rfl rfl rfl) ?_
    refine s_nil ?_
    refine c_condTh rfl rfl rfl ?_
    refine c_exit ?_
    refine n_exit ?_
    refine n_bhere ?_
    refine n_then ?_
    refine r_list (by kernel_rfl) ?_
    refine s_val (v_add rfl rfl (by omega)) ?_
    refine s_val (v_move (v := .int .i64 _) rfl) ?_
    refine s_end ?_
    refine n_round (m + 1) ⟨_, (by omega), live10 rfl rfl rfl rfl (congrArg I (by rw [best_step hpm]; simp only [wantB, better, *, Bool.true_and, Bool.false_and, Bool.and_true, Bool.and_false, Bool.not_true, Bool.not_false, Bool.true_or, Bool.or_true, Bool.false_or, Bool.or_false, cond_true, cond_false, if_true, if_false, Bool.false_eq_true, decide_true, decide_false])) rfl rfl rfl rfl rfl⟩ (fun _ hw => hw.tail) (by omega)
  refine s_want rfl rfl (congrArg not h27) ?_
  refine s_val (v_field (fo := 0) (by kernel_rfl) rfl) ?_
  refine s_want rfl rfl (congrArg not h27) ?_
  refine s_val (v_load1 (v := .int .i64 _) (by kernel_rfl) rfl .here rfl) ?_
  refine s_want rfl rfl (congrArg not h27) ?_
  refine s_val (v_move (v := .int .i64 _) rfl) ?_
  refine s_want rfl rfl (congrArg not h27) ?_
  refine s_val (v_neq (k := .i64) rfl rfl) ?_
  refine s_val (v_pickF (v := .bool _) rfl (congrArg not h27) rfl) ?_
  refine s_val (v_move (v := .bool _) rfl) ?_
  refine s_splitN (s := 33) rfl (fun h33 => ?_) (fun h33 => ?_)
  · refine s_pass rfl rfl (congrArg not h33) ?_
    refine s_pass rfl rfl (congrArg not h33) ?_
    refine s_pass rfl rfl (congrArg not h33) ?_
    refine s_val (v_pickT (v := .bool _) rfl (congrArg not h33) rfl) ?_
    refine s_nil ?_
    refine c_condTh rfl rfl rfl ?_
    refine c_exit ?_
    refine n_exit ?_
    refine n_bhere ?_
    refine n_then ?_
    refine r_list (by kernel_rfl) ?_
    refine s_val (v_add rfl rfl (by omega)) ?_
    refine s_val (v_move (v := .int .i64 _) rfl) ?_
    refine s_end ?_
    refine n_round (m + 1) ⟨_, (by omega), live10 rfl rfl rfl rfl (congrArg I (by rw [best_step hpm]; simp only [wantB, better, *, Bool.true_and, Bool.false_and, Bool.and_true, Bool.and_false, Bool.not_true, Bool.not_false, Bool.true_or, Bool.or_true, Bool.false_or, Bool.or_false, cond_true, cond_false, if_true, if_false, Bool.false_eq_true, decide_true, decide_false])) rfl rfl rfl rfl rfl⟩ (fun _ hw => hw.tail) (by omega)
  refine s_want rfl rfl (congrArg not h33) ?_
  refine s_val (v_move (v := .map _) rfl) ?_
  refine s_want rfl rfl (congrArg not h33) ?_
  refine s_val (v_move (v := .int .i64 _) rfl) ?_
  refine s_want rfl rfl (congrArg not h33) ?_
  refine s_val (v_setHas (by kernel_rfl) rfl rfl (.there (.app .here))) ?_
  refine s_val (v_pickF (v := .bool _) rfl (congrArg not h33) rfl) ?_
  refine s_nil ?_
  refine c_cond rfl rfl (fun h37 => ?_) (fun h37 => ?_)
  · refine c_exit ?_
    refine n_exit ?_
    refine n_bhere ?_
    refine n_then ?_
    refine r_list (by kernel_rfl) ?_
    refine s_val (v_add rfl rfl (by omega)) ?_
    refine s_val (v_move (v := .int .i64 _) rfl) ?_
    refine s_end ?_
    refine n_round (m + 1) ⟨_, (by omega), live10 rfl rfl rfl rfl (congrArg I (by rw [best_step hpm]; simp only [wantB, better, *, Bool.true_and, Bool.false_and, Bool.and_true, Bool.and_false, Bool.not_true, Bool.not_false, Bool.true_or, Bool.or_true, Bool.false_or, Bool.or_false, cond_true, cond_false, if_true, if_false, Bool.false_eq_true, decide_true, decide_false])) rfl rfl rfl rfl rfl⟩ (fun _ hw => hw.tail) (by omega)
  refine c_skip ?_
  refine n_then ?_
  refine d_seq (by kernel_rfl) (by kernel_rfl) (fun w hw => hw.drew) (by kernel_rfl) ?_
  refine q_val (v_move (v := .int .i64 _) rfl) ?_
  refine q_val (v_lss (k := .i64) rfl rfl) ?_
  refine q_val (v_move (v := .bool _) rfl) ?_
  refine q_split (s := 40) rfl (fun h40 => ?_) (fun h40 => ?_)
  · refine q_pass rfl rfl h40 ?_
    refine q_pass rfl rfl h40 ?_
    refine q_pass rfl rfl h40 ?_
    refine q_pass rfl rfl h40 ?_
    refine q_pass rfl rfl h40 ?_
    refine q_pass rfl rfl h40 ?_
    refine q_pass rfl rfl h40 ?_
    refine q_pass rfl rfl h40 ?_
    refine q_pass rfl rfl h40 ?_
    refine q_val (v_pickT (v := .bool _) rfl h40 rfl) ?_
    refine q_val (v_move (v := .bool _) rfl) ?_
    refine q_pass (g := true) rfl rfl rfl ?_
    refine q_pass (g := true) rfl rfl rfl ?_
    refine q_pass (g := true) rfl rfl rfl ?_
    refine q_pass (g := true) rfl rfl rfl ?_
    refine q_pass (g := true) rfl rfl rfl ?_
    refine q_pass (g := true) rfl rfl rfl ?_
    refine q_pass (g := true) rfl rfl rfl ?_
    refine q_pass (g := true) rfl rfl rfl ?_
    refine q_pass (g := true) rfl rfl rfl ?_
    refine q_pass (g := true) rfl rfl rfl ?_
    refine q_passU rfl rfl ?_
    refine q_passU rfl rfl ?_
    refine q_passU rfl rfl ?_
    refine q_passU rfl rfl ?_
    refine q_passU rfl rfl ?_
    refine q_passU rfl rfl ?_
    refine q_passU rfl rfl ?_
    refine q_passU rfl rfl ?_
    refine q_passU rfl rfl ?_
    refine q_pass (g := true) rfl rfl rfl ?_
    refine q_val (v_pickT (v := .bool _) rfl rfl rfl) ?_
    refine q_nil ?_
    refine c_condTh rfl rfl rfl ?_
    refine r_list (by kernel_rfl) ?_
    refine s_val (v_move (v := .int .i64 _) rfl) ?_
    refine s_val (v_assign (v := .int .i64 _) rfl) ?_
    refine s_end ?_
    refine n_bnormal ?_
    refine n_then ?_
    refine r_list (by kernel_rfl) ?_
    refine s_val (v_add rfl rfl (by omega)) ?_
    refine s_val (v_move (v := .int .i64 _) rfl) ?_
    refine s_end ?_
    refine n_round (m + 1) ⟨_, (by omega), live10 rfl rfl rfl rfl (congrArg I (by rw [best_step hpm]; simp only [wantB, better, *, Bool.true_and, Bool.false_and, Bool.and_true, Bool.and_false, Bool.not_true, Bool.not_false, Bool.true_or, Bool.or_true, Bool.false_or, Bool.or_false, cond_true, cond_false, if_true, if_false, Bool.false_eq_true, decide_true, decide_false])) rfl rfl rfl rfl rfl⟩ (fun _ hw => hw.tail) (by omega)
  have hq0 := of_decide_eq_false h40
  have hr := best_range ps bank (queueTo ps bank k) m
  obtain ⟨q, hq, hqd, hqt⟩ := hp.get (k := (bestTo ps bank (queueTo ps bank k) m).toNat) (by omega)
  obtain ⟨hr0, hr1⟩ : 0 ≤ bestTo ps bank (queueTo ps bank k) m ∧ bestTo ps bank (queueTo ps bank k) m < m := by omega
  refine q_want rfl rfl h40 ?_
  refine q_val (v_field (fo := 3) (by kernel_rfl) rfl) ?_
  refine q_want rfl rfl h40 ?_
  refine q_val (v_load1 (v := .int .i64 _) (by kernel_rfl) rfl .here rfl) ?_
  refine q_want rfl rfl h40 ?_
  refine q_val (v_field (fo := 40) (by kernel_rfl) rfl) ?_
  refine q_want rfl rfl h40 ?_
  refine q_val (v_load1 (v := .slice _ _ _) (by kernel_rfl) rfl (.there (.app (.there .here))) (H.at_pays _)) ?_
  refine q_want rfl rfl h40 ?_
  refine q_val (v_move (v := .int .i64 _) rfl) ?_
  refine q_want rfl rfl h40 ?_
  refine q_val (v_idxS (size := 6) (k := .i64) (by kernel_rfl) (congrArg (fun a => Value.slice a h.pl h.pc) hpa) rfl ⟨by omega, by omega⟩) ?_
  refine q_want rfl rfl h40 ?_
  refine q_val (v_field (fo := 3) (by kernel_rfl) rfl) ?_
  refine q_want rfl rfl h40 ?_
  refine q_val (v_load1o (by kernel_rfl) rfl (hc _ q hq 3 _ rfl)) ?_
  refine q_want rfl rfl h40 ?_
  refine q_val (v_lss (k := .i64) rfl rfl) ?_
  refine q_val (v_pickF (v := .bool _) rfl h40 rfl) ?_
  refine q_val (v_move (v := .bool _) rfl) ?_
  refine q_split (s := 51) rfl (fun h51 => ?_) (fun h51 => ?_)
  · refine q_pass rfl rfl h51 ?_
    refine q_pass rfl rfl h51 ?_
    refine q_pass rfl rfl h51 ?_
    refine q_pass rfl rfl h51 ?_
    refine q_pass rfl rfl h51 ?_
    refine q_pass rfl rfl h51 ?_
    refine q_pass rfl rfl h51 ?_
    refine q_pass rfl rfl h51 ?_
    refine q_pass rfl rfl h51 ?_
    refine q_pass rfl rfl h51 ?_
    refine q_passU rfl rfl ?_
    refine q_passU rfl rfl ?_
    refine q_passU rfl rfl ?_
    refine q_passU rfl rfl ?_
    refine q_passU rfl rfl ?_
    refine q_passU rfl rfl ?_
    refine q_passU rfl rfl ?_
    refine q_passU rfl rfl ?_
    refine q_passU rfl rfl ?_
    refine q_pass rfl rfl h51 ?_
    refine q_val (v_pickT (v := .bool _) rfl h51 rfl) ?_
    refine q_nil ?_
    refine c_condTh rfl rfl rfl ?_
    refine r_list (by kernel_rfl) ?_
    refine s_val (v_move (v := .int .i64 _) rfl) ?_
    refine s_val (v_assign (v := .int .i64 _) rfl) ?_
    refine s_end ?_
    refine n_bnormal ?_
    refine n_then ?_
    refine r_list (by kernel_rfl) ?_
    refine s_val (v_add rfl rfl (by omega)) ?_
    refine s_val (v_move (v := .int .i64 _) rfl) ?_
    refine s_end ?_
    refine n_round (m + 1) ⟨_, (by omega), live10 rfl rfl rfl rfl (congrArg I (by rw [best_step hpm]; simp only [wantB, better, *, Bool.true_and, Bool.false_and, Bool.and_true, Bool.and_false, Bool.not_true, Bool.not_false, Bool.true_or, Bool.or_true, Bool.false_or, Bool.or_false, cond_true, cond_false, if_true, if_false, Bool.false_eq_true, decide_true, decide_false])) rfl rfl rfl rfl rfl⟩ (fun _ hw => hw.tail) (by omega)
  refine q_want rfl rfl h51 ?_
  refine q_val (v_field (fo := 3) (by kernel_rfl) rfl) ?_
  refine q_want rfl rfl h51 ?_
  refine q_val (v_load1 (v := .int .i64 _) (by kernel_rfl) rfl .here rfl) ?_
  refine q_want rfl rfl h51 ?_
  refine q_val (v_field (fo := 40) (by kernel_rfl) rfl) ?_
  refine q_want rfl rfl h51 ?_
  refine q_val (v_load1 (v := .slice _ _ _) (by kernel_rfl) rfl (.there (.app (.there .here))) (H.at_pays _)) ?_
  refine q_want rfl rfl h51 ?_
  refine q_val (v_move (v := .int .i64 _) rfl) ?_
  refine q_want rfl rfl h51 ?_
  refine q_val (v_idxS (size := 6) (k := .i64) (by kernel_rfl) (congrArg (fun a => Value.slice a h.pl h.pc) hpa) rfl ⟨by omega, by omega⟩) ?_
  refine q_want rfl rfl h51 ?_
  refine q_val (v_field (fo := 3) (by kernel_rfl) rfl) ?_
  refine q_want rfl rfl h51 ?_
  refine q_val (v_load1o (by kernel_rfl) rfl (hc _ q hq 3 _ rfl)) ?_
  refine q_want rfl rfl h51 ?_
  refine q_val (v_eql (k := .i64) rfl rfl) ?_
  refine q_want rfl rfl h51 ?_
  refine q_val (v_move (v := .bool _) rfl) ?_
  refine q_splitR (s := 61) rfl (fun h61 => ?_) (fun h61 => ?_)
  · refine q_pass rfl rfl h61 ?_
    refine q_pass rfl rfl h61 ?_
    refine q_pass rfl rfl h61 ?_
    refine q_pass rfl rfl h61 ?_
    refine q_pass rfl rfl h61 ?_
    refine q_pass rfl rfl h61 ?_
    refine q_pass rfl rfl h61 ?_
    refine q_pass rfl rfl h61 ?_
    refine q_pass rfl rfl h61 ?_
    refine q_want rfl rfl h51 ?_
    refine q_val (v_pickF (v := .bool _) rfl h61 rfl) ?_
    refine q_val (v_pickF (v := .bool _) rfl h51 rfl) ?_
    refine q_nil ?_
    refine c_condFh rfl rfl rfl ?_
    refine c_skip ?_
    refine n_bnormal ?_
    refine n_then ?_
    refine r_list (by kernel_rfl) ?_
    refine s_val (v_add rfl rfl (by omega)) ?_
    refine s_val (v_move (v := .int .i64 _) rfl) ?_
    refine s_end ?_
    refine n_round (m + 1) ⟨_, (by omega), live10 rfl rfl rfl rfl (congrArg I (by rw [best_step hpm]; simp only [wantB, better, *, Bool.true_and, Bool.false_and, Bool.and_true, Bool.and_false, Bool.not_true, Bool.not_false, Bool.true_or, Bool.or_true, Bool.false_or, Bool.or_false, cond_true, cond_false, if_true, if_false, Bool.false_eq_true, decide_true, decide_false])) rfl rfl rfl rfl rfl⟩ (fun _ hw => hw.tail) (by omega)
  refine q_want rfl rfl h61 ?_
  refine q_val (v_field (fo := 5) (by kernel_rfl) rfl) ?_
  refine q_want rfl rfl h61 ?_
  refine q_val (v_load1 (v := .int .i64 _) (by kernel_rfl) rfl .here rfl) ?_
  refine q_want rfl rfl h61 ?_
  refine q_val (v_field (fo := 40) (by kernel_rfl) rfl) ?_
  refine q_want rfl rfl h61 ?_
  refine q_val (v_load1 (v := .slice _ _ _) (by kernel_rfl) rfl (.there (.app (.there .here))) (H.at_pays _)) ?_
  refine q_want rfl rfl h61 ?_
  refine q_val (v_move (v := .int .i64 _) rfl) ?_
  refine q_want rfl rfl h61 ?_
  refine q_val (v_idxS (size := 6) (k := .i64) (by kernel_rfl) (congrArg (fun a => Value.slice a h.pl h.pc) hpa) rfl ⟨by omega, by omega⟩) ?_
  refine q_want rfl rfl h61 ?_
  refine q_val (v_field (fo := 5) (by kernel_rfl) rfl) ?_
  refine q_want rfl rfl h61 ?_
  refine q_val (v_load1o (by kernel_rfl) rfl (hc _ q hq 5 _ rfl)) ?_
  refine q_want rfl rfl h61 ?_
  refine q_val (v_lss (k := .i64) rfl rfl) ?_
  refine q_want rfl rfl h51 ?_
  refine q_val (v_pickT (v := .bool _) rfl h61 rfl) ?_
  refine q_val (v_pickF (v := .bool _) rfl h51 rfl) ?_
  refine q_nil ?_
  refine c_condR rfl rfl (fun h72 => ?_) (fun h72 => ?_)
  · refine c_skip ?_
    refine n_bnormal ?_
    refine n_then ?_
    refine r_list (by kernel_rfl) ?_
    refine s_val (v_add rfl rfl (by omega)) ?_
    refine s_val (v_move (v := .int .i64 _) rfl) ?_
    refine s_end ?_
    refine n_round (m + 1) ⟨_, (by omega), live10 rfl rfl rfl rfl (congrArg I (by rw [best_step hpm]; simp only [wantB, better, *, Bool.true_and, Bool.false_and, Bool.and_true, Bool.and_false, Bool.not_true, Bool.not_false, Bool.true_or, Bool.or_true, Bool.false_or, Bool.or_false, cond_true, cond_false, if_true, if_false, Bool.false_eq_true, decide_true, decide_false])) rfl rfl rfl rfl rfl⟩ (fun _ hw => hw.tail) (by omega)
  refine r_list (by kernel_rfl) ?_
  refine s_val (v_move (v := .int .i64 _) rfl) ?_
  refine s_val (v_assign (v := .int .i64 _) rfl) ?_
  refine s_end ?_
  refine n_bnormal ?_
  refine n_then ?_
  refine r_list (by kernel_rfl) ?_
  refine s_val (v_add rfl rfl (by omega)) ?_
  refine s_val (v_move (v := .int .i64 _) rfl) ?_
  refine s_end ?_
  refine n_round (m + 1) ⟨_, (by omega), live10 rfl rfl rfl rfl (congrArg I (by rw [best_step hpm]; simp only [wantB, better, *, Bool.true_and, Bool.false_and, Bool.and_true, Bool.and_false, Bool.not_true, Bool.not_false, Bool.true_or, Bool.or_true, Bool.false_or, Bool.or_false, cond_true, cond_false, if_true, if_false, Bool.false_eq_true, decide_true, decide_false])) rfl rfl rfl rfl rfl⟩ (fun _ hw => hw.tail) (by omega)

theorem gr_CopyHouseE (h : H) (ps : List PayS) (w : World) (hp : PaysIn (At w) h.pa h.pl ps) (hb : h.pl * 48 ≤ 281474976710656) (hlc : h.pl ≤ h.pc) : GivesE Try.prog 14 [.agg h.cells] w (fun v E => ∃ pa pc, v = .agg ({ h with pa := pa, pc := pc } : H).cells ∧ PaysE pa h.pl pc ps E) := by
  refine givesE_of Try.func14 rfl Try.ntmps14 (by simp) ?_
  refine r_seq (by kernel_rfl) ?_
  refine s_box (v := .agg _) rfl (fun b1 => ?_)
  refine s_alloc (z := .agg zeroH.cells) (by kernel_rfl) (fun b2 => ?_)
  refine s_nil ?_
  refine r_seq (by kernel_rfl) ?_
  refine s_val (v_field (fo := 40) (by kernel_rfl) rfl) ?_
  refine s_val (v_load1 (v := .slice _ _ _) (by kernel_rfl) rfl (.there .here) (H.at_pays _)) ?_
  refine s_appendCopy (by kernel_rfl) rfl rfl rfl hp hb (fun hz5 => ?_) (fun b5 c5 cs5 hpos5 hc5 hs5 hcs5 => ?_)
  · refine s_val (v_field (fo := 40) (by kernel_rfl) rfl) ?_
    refine s_store1 (v := .slice _ _ _) (by kernel_rfl) rfl rfl (.there .here) (H.set_pays _) rfl ?_
    refine s_nil ?_
    refine r_seq (by kernel_rfl) ?_
    refine s_val (v_loadA (m := 42) (by kernel_rfl) rfl (.there .here) (H.size _)) ?_
    refine s_storeA (m := 42) (by kernel_rfl) rfl rfl .here (H.size _) (H.size _) (H.all1 _) ?_
    refine s_nil ?_
    refine c_ret ?_
    refine n_doneCE (E := []) (m := 42) rfl (by decide) rfl (by kernel_rfl) .here (H.size _) (fun w hw => hw) ⟨none, 0, ?_, hp.1, by omega, .inl ⟨rfl, hz5, rfl, rfl⟩⟩
    exact congrArg (fun n => Value.agg (H.cells { h with pa := none, pl := n, pc := 0 })) hz5.symm
  refine s_val (v_field (fo := 40) (by kernel_rfl) rfl) ?_
  refine s_store1 (v := .slice _ _ _) (by kernel_rfl) rfl rfl (.there (.there .here)) (H.set_pays _) rfl ?_
  refine s_nil ?_
  refine r_seq (by kernel_rfl) ?_
  refine s_val (v_loadA (m := 42) (by kernel_rfl) rfl (.there (.there .here)) (H.size _)) ?_
  refine s_storeA (m := 42) (by kernel_rfl) rfl rfl (.there .here) (H.size _) (H.size _) (H.all1 _) ?_
  refine s_nil ?_
  refine c_ret ?_
  refine n_doneCE (E := [_]) (m := 42) rfl (by decide) rfl (by kernel_rfl) (.there .here) (H.size _) (fun w hw => hw) ⟨_, _, rfl, hp.1, hc5, .inr ⟨b5, _, cs5, rfl, rfl, hs5, hcs5⟩⟩

theorem gr_SettlePay (h : H) (ps : List PayS) (n : Int) (w : World) (hp : PaysIn (At w) h.pa h.pl ps) (hb : h.pl * 48 ≤ 281474976710656) (hlc : h.pl ≤ h.pc) : GivesF Try.prog 39 [.agg h.cells, I n] w (HouseF h ps (settleC h.core ps n) (settleP ps n)) := by
  refine givesF_of Try.func39 rfl Try.ntmps39 (by simp) ?_
  refine r_seq (by kernel_rfl) ?_
  refine s_box (v := .agg _) rfl (fun b2 => ?_)
  refine s_alloc (z := .agg zeroH.cells) (by kernel_rfl) (fun b4 => ?_)
  refine s_nil ?_
  refine c_seq ?_
  refine r_seq (by kernel_rfl) ?_
  refine s_val (v_move (v := .int .i64 _) rfl) ?_
  refine s_val (v_field (fo := 40) (by kernel_rfl) rfl) ?_
  refine s_val (v_load1 (v := .slice _ _ _) (by kernel_rfl) rfl (.there .here) (H.at_pays _)) ?_
  refine s_val (v_lenS (T := 27) (m := 6) (by kernel_rfl) rfl rfl) ?_
  refine s_val (v_sub rfl rfl (by omega)) ?_
  refine s_call (by kernel_rfl) (fun w hw => gr_within _ _ _ w) ?_
  refine s_val (v_not rfl) ?_
  refine s_val (v_move (v := .bool _) rfl) ?_
  refine s_splitN (s := 13) rfl (fun h13 => ?_) (fun h13 => ?_)
  · refine s_pass rfl rfl (congrArg not h13) ?_
    refine s_pass rfl rfl (congrArg not h13) ?_
    refine s_pass rfl rfl (congrArg not h13) ?_
    refine s_pass rfl rfl (congrArg not h13) ?_
    refine s_pass rfl rfl (congrArg not h13) ?_
    refine s_pass rfl rfl (congrArg not h13) ?_
    refine s_pass rfl rfl (congrArg not h13) ?_
    refine s_val (v_pickT (v := .bool _) rfl (congrArg not h13) rfl) ?_
    refine s_nil ?_
    refine c_condTh rfl rfl rfl ?_
    refine r_seq (by kernel_rfl) ?_
    refine s_val (v_loadA (m := 42) (by kernel_rfl) rfl (.there .here) (H.size _)) ?_
    refine s_storeA (m := 42) (by kernel_rfl) rfl rfl .here (H.size _) (H.size _) (H.all1 _) ?_
    refine s_nil ?_
    refine c_ret ?_
    refine n_ret ?_
    refine n_doneCF (m := 42) rfl (by decide) rfl (by kernel_rfl) .here (H.size _) (fun w hw => ⟨h, rfl, ?_, hlc, .inl ⟨rfl, rfl, ?_⟩⟩)
    · have es : settles ps n = none := settles_out (by rw [hp.1]; intro hh; have := within_iff.2 (show 0 ≤ n ∧ n ≤ (h.pl : Int) - 1 by omega); rw [h13] at this; cases this)
      simp only [settleC, es]
    · have es : settles ps n = none := settles_out (by rw [hp.1]; intro hh; have := within_iff.2 (show 0 ≤ n ∧ n ≤ (h.pl : Int) - 1 by omega); rw [h13] at this; cases this)
      simp only [settleP, es]
  obtain ⟨hn0, hn1⟩ := within_iff.1 h13
  obtain ⟨p, hpn, hd, ht⟩ := hp.get (k := n.toNat) (by omega)
  obtain ⟨b, o, hpa, hc⟩ := hp.some (k := n.toNat) (by omega)
  refine s_want rfl rfl (congrArg not h13) ?_
  refine s_val (v_field (fo := 40) (by kernel_rfl) rfl) ?_
  refine s_want rfl rfl (congrArg not h13) ?_
  refine s_val (v_load1 (v := .slice _ _ _) (by kernel_rfl) rfl (.there .here) (H.at_pays _)) ?_
  refine s_want rfl rfl (congrArg not h13) ?_
  refine s_val (v_move (v := .int .i64 _) rfl) ?_
  refine s_want rfl rfl (congrArg not h13) ?_
  refine s_val (v_idxS (size := 6) (k := .i64) (by kernel_rfl) (congrArg (fun a => Value.slice a h.pl h.pc) hpa) rfl ⟨by omega, by omega⟩) ?_
  refine s_want rfl rfl (congrArg not h13) ?_
  refine s_val (v_field (fo := 4) (by kernel_rfl) rfl) ?_
  refine s_want rfl rfl (congrArg not h13) ?_
  refine s_val (v_load1o (by kernel_rfl) rfl (hc _ p hpn 4 _ rfl)) ?_
  refine s_want rfl rfl (congrArg not h13) ?_
  refine s_val (v_neq (k := .i64) rfl rfl) ?_
  refine s_val (v_pickF (v := .bool _) rfl (congrArg not h13) rfl) ?_
  refine s_nil ?_
  refine c_condN rfl rfl (fun h21 => ?_) (fun h21 => ?_)
  · refine r_seq (by kernel_rfl) ?_
    refine s_val (v_loadA (m := 42) (by kernel_rfl) rfl (.there .here) (H.size _)) ?_
    refine s_storeA (m := 42) (by kernel_rfl) rfl rfl .here (H.size _) (H.size _) (H.all1 _) ?_
    refine s_nil ?_
    refine c_ret ?_
    refine n_ret ?_
    refine n_doneCF (m := 42) rfl (by decide) rfl (by kernel_rfl) .here (H.size _) (fun w hw => ⟨h, rfl, ?_, hlc, .inl ⟨rfl, rfl, ?_⟩⟩)
    · have es : settles ps n = none := settles_not hpn (of_decide_eq_false h21)
      simp only [settleC, es]
    · have es : settles ps n = none := settles_not hpn (of_decide_eq_false h21)
      simp only [settleP, es]
  refine c_skip ?_
  refine n_then ?_
  refine r_seq (by kernel_rfl) ?_
  refine s_val (v_loadA (m := 42) (by kernel_rfl) rfl (.there .here) (H.size _)) ?_
  refine s_callE (by kernel_rfl) (fun w hw => gr_CopyHouseE h ps w (hp.at hw) hb hlc) (fun v24 E24 hR24 => ?_)
  obtain ⟨pa24, pc24, rfl, hpe24⟩ := hR24
  obtain ⟨b24, t24, cs24, rfl, rfl, hsz24, hcs24⟩ := hpe24.some (by omega)
  have hle24 := hpe24.2.1
  refine s_storeA (m := 42) (by kernel_rfl) rfl rfl (.there (.there .here)) (H.size _) (H.size _) (H.all1 _) ?_
  refine s_nil ?_
  refine r_seq (by kernel_rfl) ?_
  refine s_val (v_field (fo := 40) (by kernel_rfl) rfl) ?_
  refine s_val (v_load1 (v := .slice _ _ _) (by kernel_rfl) rfl (.there (.there .here)) (H.at_pays _)) ?_
  refine s_val (v_move (v := .int .i64 _) rfl) ?_
  refine s_val (v_idxS (size := 6) (k := .i64) (by kernel_rfl) rfl rfl ⟨by omega, by dsimp only; omega⟩) ?_
  refine s_val (v_loadN (cs' := p.cells) (m := 6) (by kernel_rfl) rfl .here rfl (hcs24.extract hpn (by rw [hsz24]; omega))) ?_
  refine s_alloc (z := zeroOf Try.prog 36) (by kernel_rfl) (fun b5 => ?_)
  refine s_storeA (m := 6) (by kernel_rfl) rfl rfl .here (by kernel_rfl) rfl (PayS.all1 _) ?_
  refine s_nil ?_
  refine r_seq (by kernel_rfl) ?_
  refine s_val (v_field (fo := 40) (by kernel_rfl) rfl) ?_
  refine s_val (v_load1 (v := .slice _ _ _) (by kernel_rfl) rfl (.there (.there (.there .here))) (H.at_pays _)) ?_
  refine s_val (v_move (v := .int .i64 _) rfl) ?_
  refine s_val (v_idxS (size := 6) (k := .i64) (by kernel_rfl) rfl rfl ⟨by omega, by dsimp only; omega⟩) ?_
  refine s_val (v_field (fo := 4) (by kernel_rfl) rfl) ?_
  refine s_store1 (v := .int .i64 _) (by kernel_rfl) rfl rfl (.there .here) ⟨by rw [hsz24]; omega, rfl⟩ rfl ?_
  refine s_nil ?_
  refine r_seq (by kernel_rfl) ?_
  refine s_val (v_loadA (m := 42) (by kernel_rfl) rfl (.there (.there (.there .here))) (H.size _)) ?_
  refine s_val (v_field (fo := 0) (by kernel_rfl) rfl) ?_
  refine s_val (v_load1 (v := .int .i64 _) (by kernel_rfl) rfl .here rfl) ?_
  refine s_val (v_field (fo := 1) (by kernel_rfl) rfl) ?_
  refine s_val (v_load1 (v := .int .i64 _) (by kernel_rfl) rfl .here rfl) ?_
  refine s_val (v_field (fo := 2) (by kernel_rfl) rfl) ?_
  refine s_val (v_load1 (v := .int .i64 _) (by kernel_rfl) rfl .here rfl) ?_
  refine s_call (by kernel_rfl) (fun w hw => gr_MoveSum _ _ _ _ w) ?_
  refine s_storeA (m := 42) (by kernel_rfl) rfl rfl (.there (.there .here)) (H.size _) (H.size _) (H.all1 _) ?_
  refine s_nil ?_
  refine c_ret ?_
  refine n_doneCF (m := 42) rfl (by decide) rfl (by kernel_rfl) (.there (.there .here)) (H.size _) (fun w hw => ?_)
  have es := settles_of hn0 hpn (of_decide_eq_true h21)
  refine ⟨_, rfl, ?_, ?_, .inr ?_⟩
  · rw [core_move]; simp only [settleC, es]; rfl
  · rw [move_pl, move_pc]; exact hle24
  · rw [move_pl, move_pa]; simp only [settleP, es]; exact own_pays hw (.there .here) (by rw [List.length_set]; exact hp.1) (hcs24.settled hpn)

end Go.Proofs.Ytmkboljfbmlebaa
/- What the sweep comes to, said plainly. No condition. -/
namespace Go.Proofs.Ytmkboljfbmlebaa
open Go.RowKit
set_option linter.unusedSimpArgs false
set_option linter.unusedVariables false

structure QS where
  c : H
  ps : List PayS
  xs : List Int
/-- the first payment of a bank's queue, where it may be sent -/
def firstM (c : H) (ps : List PayS) (bank : Int) : Option Int := match queueM ps bank with
  | [] => none
  | i :: _ => match ps[i.toNat]? with
    | some p => bif maySendM c bank p.dst p.amt then some i else none
    | none => none
def cnt (ps : List PayS) : Nat := ps.countP fun p => decide (p.sta = 1)
def QS.go (s : QS) (i : Int) : QS := { c := settleC s.c s.ps i, ps := settleP s.ps i, xs := s.xs ++ [i] }
theorem queueTo_mine (ps : List PayS) (bank : Int) : ∀ k, ∀ i ∈ queueTo ps bank k, Mine ps bank i
  | 0, i, h => by simp [queueTo] at h
  | k + 1, i, h => by
    cases hb : decide (0 ≤ bestTo ps bank (queueTo ps bank k) ps.length)
    · rw [queueTo_no hb] at h; exact queueTo_mine ps bank k i h
    · rw [queueTo_yes hb] at h
      rcases List.mem_append.1 h with h | h
      · exact queueTo_mine ps bank k i h
      · simp at h; subst h; exact (best_mine ps bank _ _ (of_decide_eq_true hb)).1
theorem queueM_mine {ps : List PayS} {bank i : Int} (h : i ∈ queueM ps bank) : Mine ps bank i := queueTo_mine ps bank _ i h
theorem Mine.settles {ps : List PayS} {bank i : Int} (h : Mine ps bank i) : ∃ p, settles ps i = some p ∧ ps[i.toNat]? = some p ∧ p.sta = 1 ∧ p.src = bank := by
  obtain ⟨h0, p, hp, h1, h2⟩ := h
  exact ⟨p, by unfold Proofs.Ytmkboljfbmlebaa.settles; simp [h0, hp, h1], hp, h1, h2⟩
theorem settleP_len (ps : List PayS) (n : Int) : (settleP ps n).length = ps.length := by unfold settleP; split <;> simp
theorem settles_spec {ps : List PayS} {n : Int} {p : PayS} (h : settles ps n = some p) : 0 ≤ n ∧ ps[n.toNat]? = some p ∧ p.sta = 1 := by
  unfold settles at h
  split at h
  · rename_i h0
    split at h
    · rename_i q hq
      split at h
      · rename_i h1
        simp at h; subst h
        exact ⟨h0, hq, h1⟩
      · cases h
    · cases h
  · cases h
theorem cnt_settle {ps : List PayS} {n : Int} {p : PayS} (h : settles ps n = some p) : cnt (settleP ps n) + 1 = cnt ps := by
  obtain ⟨h0, hp, h1⟩ := settles_spec h
  obtain ⟨hlt, he⟩ := List.getElem?_eq_some_iff.1 hp
  simp only [settleP, h, cnt]
  rw [List.countP_set hlt]
  have : 0 < ps.countP fun p => decide (p.sta = 1) := List.countP_pos_iff.2 ⟨p, List.mem_of_getElem? hp, by simpa using h1⟩
  simp [he, h1]
  omega
theorem firstM_spec {c : H} {ps : List PayS} {bank i : Int} (h : firstM c ps bank = some i) : ∃ p r, queueM ps bank = i :: r ∧ settles ps i = some p ∧ p.src = bank ∧ maySendM c bank p.dst p.amt = true := by
  unfold firstM at h
  split at h
  · cases h
  · rename_i j r hq
    split at h
    · rename_i p hp
      cases hm : maySendM c bank p.dst p.amt
      · rw [hm] at h; cases h
      · rw [hm] at h
        simp at h; subst h
        obtain ⟨q, h1, h2, h3, h4⟩ := (queueM_mine (ps := ps) (bank := bank) (i := j) (by rw [hq]; simp)).settles
        rw [h2] at hp; simp at hp; subst hp
        exact ⟨q, r, hq, h1, h4, hm⟩
    · cases h
theorem firstM_yes {c : H} {ps : List PayS} {bank i : Int} {r : List Int} {p : PayS} (hq : queueM ps bank = i :: r) (hp : ps[i.toNat]? = some p) (hm : maySendM c bank p.dst p.amt = true) : firstM c ps bank = some i := by
  simp only [firstM, hq, hp, hm, cond_true]
theorem firstM_no {c : H} {ps : List PayS} {bank i : Int} {r : List Int} {p : PayS} (hq : queueM ps bank = i :: r) (hp : ps[i.toNat]? = some p) (hm : maySendM c bank p.dst p.amt = false) : firstM c ps bank = none := by
  simp only [firstM, hq, hp, hm, cond_false]
theorem firstM_nil {c : H} {ps : List PayS} {bank : Int} (hq : queueM ps bank = []) : firstM c ps bank = none := by
  simp only [firstM, hq]
/-- one bank, as long as it may -/
def drain (bank : Int) (s : QS) : QS := match h : firstM s.c s.ps bank with
  | some i => drain bank (s.go i)
  | none => s
termination_by cnt s.ps
decreasing_by
  obtain ⟨p, r, _, h1, _⟩ := firstM_spec h
  have := cnt_settle h1
  simp only [QS.go]
  omega
theorem drain_go {bank i : Int} {s : QS} (h : firstM s.c s.ps bank = some i) : drain bank s = drain bank (s.go i) := by
  rw [drain]
  split
  · rename_i j hj; rw [h] at hj; simp at hj; subst hj; rfl
  · rename_i hj; rw [h] at hj; cases hj
theorem drain_end {bank : Int} {s : QS} (h : firstM s.c s.ps bank = none) : drain bank s = s := by
  rw [drain]
  split
  · rename_i j hj; rw [h] at hj; cases hj
  · rfl
theorem drain_facts (bank : Int) (s : QS) : firstM (drain bank s).c (drain bank s).ps bank = none ∧ (drain bank s).xs.length + cnt (drain bank s).ps = s.xs.length + cnt s.ps ∧ s.xs.length ≤ (drain bank s).xs.length := by
  generalize hn : cnt s.ps = n
  induction n using Nat.strongRecOn generalizing s with
  | _ n ih =>
    cases h : firstM s.c s.ps bank with
    | none => rw [drain_end h]; exact ⟨h, by omega, Nat.le_refl _⟩
    | some i =>
      rw [drain_go h]
      obtain ⟨p, r, _, h1, _⟩ := firstM_spec h
      have := cnt_settle h1
      obtain ⟨e1, e2, e3⟩ := ih (cnt (s.go i).ps) (by simp only [QS.go]; omega) (s.go i) rfl
      refine ⟨e1, ?_, ?_⟩
      · rw [e2]; simp only [QS.go, List.length_append, List.length_cons, List.length_nil]; omega
      · simp only [QS.go, List.length_append, List.length_cons, List.length_nil] at e3; simp only [QS.go] at *; omega
/-- the banks in turn, until four in a row can do nothing -/
def sweepFrom (bank idle : Nat) (s : QS) : QS :=
  if h : idle < 4 then
    if h2 : (drain bank s).xs.length = s.xs.length then sweepFrom ((bank + 1) % 4) (idle + 1) (drain bank s) else sweepFrom ((bank + 1) % 4) 0 (drain bank s)
  else s
termination_by 5 * cnt s.ps + (4 - idle)
decreasing_by
  all_goals
    have := drain_facts bank s
    omega
theorem sweep_end {bank idle : Nat} {s : QS} (h : ¬ idle < 4) : sweepFrom bank idle s = s := by rw [sweepFrom, dif_neg h]
theorem sweep_idle {bank idle : Nat} {s s' : QS} (h : idle < 4) (hd : drain bank s = s') (h2 : s'.xs.length = s.xs.length) : sweepFrom bank idle s = sweepFrom ((bank + 1) % 4) (idle + 1) s' := by
  subst hd
  rw [sweepFrom, dif_pos h]
  simp only [h2, dite_true]
theorem sweep_busy {bank idle : Nat} {s s' : QS} (h : idle < 4) (hd : drain bank s = s') (h2 : ¬ s'.xs.length = s.xs.length) : sweepFrom bank idle s = sweepFrom ((bank + 1) % 4) 0 s' := by
  subst hd
  rw [sweepFrom, dif_pos h]
  simp only [h2, dite_false]
def sweepM (c : H) (ps : List PayS) : QS := bif goodB c ps then sweepFrom 0 0 ⟨c, ps, []⟩ else ⟨c, ps, []⟩
end Go.Proofs.Ytmkboljfbmlebaa
/- The sweep's going round: what holds at each turn. No condition. -/
namespace Go.Proofs.Ytmkboljfbmlebaa
open Go.RowKit
set_option linter.unusedSimpArgs false
set_option linter.unusedVariables false

structure SwG where
  F : Addr → Value → Prop
  h : H
  ps : List PayS
  xs : List Int
  v : Value
  E : List (Nat × Obj)
  bank : Nat
  idle : Nat
def SwG.q (t : SwG) : QS := ⟨t.h.core, t.ps, t.xs⟩
structure SwOk (w : World) (h0 : H) (ps0 : List PayS) (e : Nat) (t : SwG) : Prop where
  pays : PaysIn t.F t.h.pa t.h.pl t.ps
  out : (t.h.pa = h0.pa ∧ t.h.pl = h0.pl ∧ t.ps = ps0) ∨ PaysIn (Young w t.F) t.h.pa t.h.pl t.ps
  len : t.h.pl = h0.pl
  lc : t.h.pl ≤ t.h.pc
  list : ListE e 1 t.v t.xs.length (t.xs.map I) t.E
  sum : t.xs.length + cnt t.ps ≤ h0.pl
theorem swOk_start {w : World} {h : H} {ps : List PayS} {e : Nat} (hp : PaysIn (At w) h.pa h.pl ps) (hlc : h.pl ≤ h.pc) : SwOk w h ps e ⟨At w, h, ps, [], .slice none 0 0, [], 0, 0⟩ :=
  ⟨hp, .inl ⟨rfl, rfl, rfl⟩, rfl, hlc, listE_nil _ _, by
    have : cnt ps ≤ ps.length := List.countP_le_length
    have := hp.1
    simp only [List.length_nil]; omega⟩
theorem SwOk.learn {w : World} {h0 : H} {ps0 : List PayS} {e : Nat} {t : SwG} (k : SwOk w h0 ps0 e t) {F' : Addr → Value → Prop} (hF : More t.F F') (b i : Nat) : SwOk w h0 ps0 e ⟨F', t.h, t.ps, t.xs, t.v, t.E, b, i⟩ :=
  ⟨k.pays.mono hF, k.out.imp id fun h => h.mono (young_mono hF), k.len, k.lc, k.list, k.sum⟩
theorem SwOk.go {w : World} {h0 : H} {ps0 : List PayS} {e : Nat} {t : SwG} (k : SwOk w h0 ps0 e t) {F' : Addr → Value → Prop} (hF : More t.F F') {i : Int} {p : PayS} (hs : settles t.ps i = some p) {h' : H} (hlc : h'.pl ≤ h'.pc)
    (ho : (h'.pa = t.h.pa ∧ h'.pl = t.h.pl ∧ settleP t.ps i = t.ps) ∨ PaysIn (Young w F') h'.pa h'.pl (settleP t.ps i)) {v' : Value} {E' : List (Nat × Obj)} (hl : ListE e 1 v' (t.xs.length + 1) (t.xs.map I ++ [I i]) E') (b d : Nat) :
    SwOk w h0 ps0 e ⟨F', h', settleP t.ps i, t.xs ++ [i], v', E', b, d⟩ := by
  have hlen : h'.pl = t.h.pl := by
    rcases ho with ho | ho
    · exact ho.2.1
    · rw [← ho.1, settleP_len, k.pays.1]
  refine ⟨?_, ?_, by simp only; rw [hlen, k.len], hlc, by simpa using hl, ?_⟩
  · rcases ho with ⟨h1, h2, h3⟩ | ho
    · simp only; rw [h1, h2, h3]; exact k.pays.mono hF
    · exact ho.mono (more_young w F')
  · rcases ho with ⟨h1, h2, h3⟩ | ho
    · simp only; rw [h1, h2, h3]
      exact k.out.imp id fun h => h.mono (young_mono hF)
    · exact .inr ho
  · have := cnt_settle hs
    have := k.sum
    simp only [List.length_append, List.length_cons, List.length_nil]; omega
theorem sw_round {s t : QS} {bank idle idle' : Nat} (h4 : idle < 4) (hn : firstM t.c t.ps bank = none) (hd : drain bank t = drain bank s) (hi : (idle' = idle + 1 ∧ t.xs.length = s.xs.length) ∨ (idle' = 0 ∧ s.xs.length < t.xs.length)) :
    sweepFrom ((bank + 1) % 4) idle' t = sweepFrom bank idle s ∧ 5 * cnt t.ps + (4 - idle') < 5 * cnt s.ps + (4 - idle) ∧ idle' ≤ 4 := by
  rw [drain_end hn] at hd
  have hf := drain_facts bank s
  rw [← hd] at hf
  obtain ⟨_, h1, h2⟩ := hf
  rcases hi with ⟨rfl, h3⟩ | ⟨rfl, h3⟩
  · exact ⟨(sweep_idle h4 hd.symm h3).symm, by omega, by omega⟩
  · exact ⟨(sweep_busy h4 hd.symm (by omega)).symm, by omega, by omega⟩
theorem sw_drain {t : SwG} {bank i : Int} {r : List Int} {p : PayS} {h' : H} (hq : queueM t.ps bank = i :: r) (hpi : t.ps[i.toNat]? = some p) (hm : maySendM t.h bank p.dst p.amt = true) (hco : h'.core = settleC t.h.core t.ps i) : drain bank ⟨h'.core, settleP t.ps i, t.xs ++ [i]⟩ = drain bank t.q := by
  have : firstM t.q.c t.q.ps bank = some i := firstM_yes (c := t.h.core) hq hpi hm
  rw [drain_go this, hco]
  rfl
theorem rem4 (n : Nat) : ((n : Int) + 1).tmod 4 = (((n + 1) % 4 : Nat) : Int) := by
  rw [Int.tmod_eq_emod_of_nonneg (by omega)]; omega
theorem may_core (h : H) (a b n : Int) : maySendM h.core a b n = maySendM h a b n := rfl
theorem good_core (h : H) (ps : List PayS) : goodB h.core ps = goodB h ps := rfl
/-- a house and a list of numbers -/
def SweepF (h0 : H) (ps0 : List PayS) (s : QS) (F : Addr → Value → Prop) (v : Value) : Prop := ∃ v1 v2, v = .tuple #[v1, v2] ∧ HouseF h0 ps0 s.c s.ps F v1 ∧ IntsIn F v2 s.xs
theorem sweepF_mono (h0 : H) (ps0 : List PayS) (s : QS) : Mono (SweepF h0 ps0 s) := by
  rintro F F' v hm ⟨v1, v2, h1, h2, h3⟩
  exact ⟨v1, v2, h1, houseF_mono _ _ _ _ _ _ _ hm h2, h3.mono hm⟩
theorem SwOk.done {w w' : World} {h0 : H} {ps0 : List PayS} {e : Nat} {t : SwG} {L : List (Nat × Obj)} (k : SwOk w h0 ps0 e t) (hw : Has w t.F (t.E ++ L) w') : SweepF h0 ps0 t.q (Fresh w w') (.tuple #[.agg t.h.cells, t.v]) :=
  ⟨_, _, rfl, ⟨t.h, rfl, rfl, k.lc, k.out.imp id fun h => h.mono (young_fresh hw)⟩, ints_of_list k.list (own_fresh hw)⟩
end Go.Proofs.Ytmkboljfbmlebaa
/- Contract of the document side of the sweep. Condition: the payments lie in memory that is known. -/
namespace Go.Proofs.Ytmkboljfbmlebaa
open Go.RowKit
set_option linter.unusedSimpArgs false
set_option linter.unusedVariables false
set_option maxRecDepth 100000
attribute [local irreducible] cC sC nC rC qw

theorem gr_SweepHouse (h : H) (ps : List PayS) (w : World) (hp : PaysIn (At w) h.pa h.pl ps) (hb : h.pl * 48 ≤ 281474976710656) (hlc : h.pl ≤ h.pc) : GivesF Try.prog 33 [.agg h.cells] w (SweepF h ps (sweepM h.core ps)) := by
  refine givesF_of Try.func33 rfl Try.ntmps33 (by simp) ?_
  refine r_seq (by kernel_rfl) ?_
  refine s_box (v := .agg _) rfl (fun b1 => ?_)
  refine s_alloc (z := .agg zeroH.cells) (by kernel_rfl) (fun b2 => ?_)
  refine s_val (v_assign (v := .slice _ _ _) rfl) ?_
  refine s_nil ?_
  refine r_seq (by kernel_rfl) ?_
  refine s_val (v_assign (v := .slice _ _ _) rfl) ?_
  refine s_nil ?_
  refine c_seq ?_
  refine r_seq (by kernel_rfl) ?_
  refine s_val (v_loadA (m := 42) (by kernel_rfl) rfl (.there .here) (H.size _)) ?_
  refine s_call (by kernel_rfl) (fun w hw => gr_IsHouse _ ps w (hp.at hw) hb hlc) ?_
  refine s_val (v_not rfl) ?_
  refine s_nil ?_
  refine c_condN rfl rfl (fun h10 => ?_) (fun h10 => ?_)
  · refine r_seq (by kernel_rfl) ?_
    refine s_val (v_loadA (m := 42) (by kernel_rfl) rfl (.there .here) (H.size _)) ?_
    refine s_storeA (m := 42) (by kernel_rfl) rfl rfl .here (H.size _) (H.size _) (H.all1 _) ?_
    refine s_val (v_assign (v := .slice _ _ _) rfl) ?_
    refine s_nil ?_
    refine c_ret ?_
    refine n_ret ?_
    refine n_done2F (m := 42) rfl (by decide) (by decide) rfl (by kernel_rfl) .here (H.size _) (fun w hw => ?_)
    have hg : goodB h.core ps = false := (isHouse_eq hp.1).symm.trans h10
    simp only [sweepM, hg, cond_false]
    exact ⟨_, _, rfl, ⟨h, rfl, rfl, hlc, .inl ⟨rfl, rfl, rfl⟩⟩, none, 0, rfl, .inl rfl⟩
  refine c_skip ?_
  refine n_then ?_
  refine r_seq (by kernel_rfl) ?_
  refine s_val (v_assign (v := .int .i64 _) rfl) ?_
  refine s_nil ?_
  refine c_seq ?_
  refine r_seq (by kernel_rfl) ?_
  refine s_val (v_assign (v := .int .i64 _) rfl) ?_
  refine s_nil ?_
  refine c_block ?_
  refine c_loop (σ := SwG) (fun (s : SwG) f => ∃ g, (SwOk w h ps 3 s ∧ s.bank < 4 ∧ s.idle ≤ 4 ∧ sweepFrom s.bank s.idle s.q = sweepFrom 0 0 ⟨h.core, ps, []⟩) ∧ f = (upd (upd (upd (upd (upd g 1 (.pointer (some ⟨b1, 0, none⟩))) 2 (.pointer (some ⟨b2, 0, none⟩))) 4 (s.v)) 5 (I (s.idle : Int))) 6 (I (s.bank : Int)))) (fun (s : SwG) => Has w s.F (s.E ++ [(b2, .cells zeroH.cells 29), (b1, .cells s.h.cells 29)])) (fun (s : SwG) => 5 * cnt s.ps + (4 - s.idle)) ⟨At w, h, ps, [], .slice none 0 0, [], 0, 0⟩ ⟨_, ⟨swOk_start hp hlc, Nat.zero_lt_succ _, Nat.zero_le _, rfl⟩, live5 rfl rfl rfl rfl rfl⟩ (fun w hw => hw) ?_
  rintro s _ ⟨g, ⟨hok0, hb4, hi4, hsw⟩, rfl⟩
  refine c_seq ?_
  refine r_seq (by kernel_rfl) ?_
  refine s_val (v_move (v := .int .i64 _) rfl) ?_
  refine s_val (v_lss (k := .i64) rfl rfl) ?_
  refine s_nil ?_
  refine c_condR rfl rfl (fun h13 => ?_) (fun h13 => ?_)
  · have h4 : ¬ s.idle < 4 := by have := of_decide_eq_false h13; omega
    refine c_exit ?_
    refine n_exit ?_
    refine n_exit ?_
    refine n_bhere ?_
    refine n_then ?_
    refine r_seq (by kernel_rfl) ?_
    refine s_val (v_loadA (m := 42) (by kernel_rfl) rfl (.app (.there .here)) (H.size _)) ?_
    refine s_val (v_move (v := _) rfl) ?_
    refine s_storeA (m := 42) (by kernel_rfl) rfl rfl (.app .here) (H.size _) (H.size _) (H.all1 _) ?_
    refine s_val (v_assign (v := _) rfl) ?_
    refine s_nil ?_
    refine c_ret ?_
    refine n_done2F (m := 42) rfl (by decide) (by decide) rfl (by kernel_rfl) (.app .here) (H.size _) (fun w hw => ?_)
    have hg : goodB h.core ps = true := (isHouse_eq hp.1).symm.trans h10
    simp only [sweepM, hg, cond_true]
    rw [← hsw, sweep_end h4]
    exact hok0.done hw
  have h4 : s.idle < 4 := by have := of_decide_eq_true h13; omega
  refine c_skip ?_
  refine n_then ?_
  refine c_seq ?_
  refine c_block ?_
  refine r_seq (by kernel_rfl) ?_
  refine s_val (v_move (v := .int .i64 _) rfl) ?_
  refine s_val (v_add rfl rfl (by omega)) ?_
  refine s_val (v_assign (v := .int .i64 _) rfl) ?_
  refine s_nil ?_
  refine c_block ?_
  refine c_loop (σ := SwG) (fun (t : SwG) f => ∃ g, (SwOk w h ps 3 t ∧ drain s.bank t.q = drain s.bank s.q ∧ ((t.idle = s.idle + 1 ∧ t.xs.length = s.xs.length) ∨ (t.idle = 0 ∧ s.xs.length < t.xs.length))) ∧ f = (upd (upd (upd (upd (upd g 1 (.pointer (some ⟨b1, 0, none⟩))) 2 (.pointer (some ⟨b2, 0, none⟩))) 4 (t.v)) 5 (I (t.idle : Int))) 6 (I (s.bank : Int)))) (fun (t : SwG) => Has w t.F (t.E ++ [(b2, .cells zeroH.cells 29), (b1, .cells t.h.cells 29)])) (fun (t : SwG) => cnt t.ps) ⟨s.F, s.h, s.ps, s.xs, s.v, s.E, s.bank, s.idle + 1⟩ ⟨_, ⟨hok0.learn (fun _ _ h => h) _ _, rfl, .inl ⟨rfl, rfl⟩⟩, live5 rfl rfl rfl rfl rfl⟩ (fun w hw => hw) ?_
  rintro t _ ⟨g, ⟨hok, hdr, hid⟩, rfl⟩
  refine c_block ?_
  have hlct := hok.lc
  have hlnt := hok.len
  refine r_seq (by kernel_rfl) ?_
  refine s_val (v_loadA (m := 42) (by kernel_rfl) rfl (.app (.there .here)) (H.size _)) ?_
  refine s_val (v_move (v := .int .i64 _) rfl) ?_
  refine s_callF (by kernel_rfl) (fun w hw => gr_QueueOf t.h t.ps s.bank w (hok.pays.at hw) (by omega) hlct) (fun F21 v21 E21 hF21 hK21 hR21 => ?_)
  have hpy := hok.pays.mono hF21
  obtain ⟨a21, c21, rfl, hq21⟩ := ints_of_list hR21 hK21
  refine s_val (v_assign (v := .slice _ _ _) rfl) ?_
  refine s_nil ?_
  refine c_seq ?_
  refine d_seq (by kernel_rfl) (by kernel_rfl) (fun w hw => hw.drew) (by kernel_rfl) ?_
  refine q_val (v_move (v := .slice _ _ _) rfl) ?_
  refine q_val (v_lenS (T := 43) (m := 1) (by kernel_rfl) rfl rfl) ?_
  refine q_val (v_eql (k := .i64) rfl rfl) ?_
  refine q_val (v_move (v := .bool _) rfl) ?_
  refine q_split (s := 25) rfl (fun h25 => ?_) (fun h25 => ?_)
  · refine q_pass rfl rfl h25 ?_
    refine q_pass rfl rfl h25 ?_
    refine q_pass rfl rfl h25 ?_
    refine q_pass rfl rfl h25 ?_
    refine q_pass rfl rfl h25 ?_
    refine q_pass rfl rfl h25 ?_
    refine q_pass rfl rfl h25 ?_
    refine q_pass rfl rfl h25 ?_
    refine q_pass rfl rfl h25 ?_
    refine q_pass rfl rfl h25 ?_
    refine q_pass rfl rfl h25 ?_
    refine q_pass rfl rfl h25 ?_
    refine q_pass rfl rfl h25 ?_
    refine q_pass rfl rfl h25 ?_
    refine q_pass rfl rfl h25 ?_
    refine q_pass rfl rfl h25 ?_
    refine q_pass rfl rfl h25 ?_
    refine q_pass rfl rfl h25 ?_
    refine q_pass rfl rfl h25 ?_
    refine q_pass rfl rfl h25 ?_
    refine q_val (v_pickT (v := .bool _) rfl h25 rfl) ?_
    refine q_nil ?_
    refine c_condTh rfl rfl rfl ?_
    refine c_exit ?_
    refine n_exit ?_
    refine n_bpast rfl ?_
    refine n_exit ?_
    refine n_bhere ?_
    refine n_bnormal ?_
    refine n_then ?_
    refine r_list (by kernel_rfl) ?_
    refine s_val (v_move (v := .int .i64 _) rfl) ?_
    refine s_val (v_add rfl rfl (by omega)) ?_
    refine s_val (v_rem (c := (((s.bank + 1) % 4 : Nat) : Int)) rfl rfl (by decide) (rem4 _)) ?_
    refine s_val (v_assign (v := .int .i64 _) rfl) ?_
    refine s_end ?_
    refine n_round (s := s) ⟨F21, t.h, t.ps, t.xs, t.v, t.E, (s.bank + 1) % 4, t.idle⟩ ⟨_, (by
      obtain ⟨e1, e2, e3⟩ := sw_round (s := s.q) (t := t.q) h4 (firstM_nil (show queueM t.ps s.bank = [] from List.eq_nil_of_length_eq_zero (by have := of_decide_eq_true h25; omega))) hdr hid
      exact ⟨hok.learn hF21 _ _, Nat.mod_lt _ (by decide), e3, e1.trans hsw⟩), live5 rfl rfl rfl rfl rfl⟩ (fun _ hw => hw) (sw_round (s := s.q) (t := t.q) h4 (firstM_nil (show queueM t.ps s.bank = [] from List.eq_nil_of_length_eq_zero (by have := of_decide_eq_true h25; omega))) hdr hid).2.1
  have hne := of_decide_eq_false h25
  obtain ⟨i, r, hq⟩ : ∃ i r, queueM t.ps s.bank = i :: r := by
    cases hq : queueM t.ps s.bank with
    | nil => rw [hq] at hne; exact absurd rfl hne
    | cons i r => exact ⟨i, r, rfl⟩
  obtain ⟨bq, oq, rfl, hel⟩ := hq21.resolve_left (by rw [hq]; simp)
  have hi0 := hel 0 i (by rw [hq]; rfl)
  have hlen : (0 : Int) < ((queueM t.ps s.bank).length : Int) := by rw [hq]; simp only [List.length_cons]; omega
  obtain ⟨p, hst, hpi, hsta, hsrc⟩ := (queueM_mine (show i ∈ queueM t.ps s.bank by rw [hq]; simp)).settles
  have hi1 := (settles_spec hst).1
  have hilt : i.toNat < t.h.pl := by have := (List.getElem?_eq_some_iff.1 hpi).1; have := hok.pays.1; omega
  obtain ⟨bp, op, hpa, hc⟩ := hpy.some hilt
  refine q_want rfl rfl h25 ?_
  refine q_val (v_loadA (m := 42) (by kernel_rfl) rfl (.app (.there .here)) (H.size _)) ?_
  refine q_want rfl rfl h25 ?_
  refine q_val (v_move (v := .int .i64 _) rfl) ?_
  refine q_want rfl rfl h25 ?_
  refine q_val (v_field (fo := 40) (by kernel_rfl) rfl) ?_
  refine q_want rfl rfl h25 ?_
  refine q_val (v_load1 (v := .slice _ _ _) (by kernel_rfl) rfl (.app (.there .here)) (H.at_pays _)) ?_
  refine q_want rfl rfl h25 ?_
  refine q_val (v_move (v := .slice _ _ _) rfl) ?_
  refine q_want rfl rfl h25 ?_
  refine q_val (v_idxS (size := 1) (k := .i64) (by kernel_rfl) rfl rfl ⟨by decide, hlen⟩) ?_
  refine q_want rfl rfl h25 ?_
  refine q_val (v_load1o (v := I i) (by kernel_rfl) rfl hi0) ?_
  refine q_want rfl rfl h25 ?_
  refine q_val (v_idxS (size := 6) (k := .i64) (by kernel_rfl) (congrArg (fun a => Value.slice a t.h.pl t.h.pc) hpa) rfl ⟨by omega, by omega⟩) ?_
  refine q_want rfl rfl h25 ?_
  refine q_val (v_field (fo := 1) (by kernel_rfl) rfl) ?_
  refine q_want rfl rfl h25 ?_
  refine q_val (v_load1o (by kernel_rfl) rfl (hc _ p hpi 1 _ rfl)) ?_
  refine q_want rfl rfl h25 ?_
  refine q_val (v_field (fo := 40) (by kernel_rfl) rfl) ?_
  refine q_want rfl rfl h25 ?_
  refine q_val (v_load1 (v := .slice _ _ _) (by kernel_rfl) rfl (.app (.there .here)) (H.at_pays _)) ?_
  refine q_want rfl rfl h25 ?_
  refine q_val (v_move (v := .slice _ _ _) rfl) ?_
  refine q_want rfl rfl h25 ?_
  refine q_val (v_idxS (size := 1) (k := .i64) (by kernel_rfl) rfl rfl ⟨by decide, hlen⟩) ?_
  refine q_want rfl rfl h25 ?_
  refine q_val (v_load1o (v := I i) (by kernel_rfl) rfl hi0) ?_
  refine q_want rfl rfl h25 ?_
  refine q_val (v_idxS (size := 6) (k := .i64) (by kernel_rfl) (congrArg (fun a => Value.slice a t.h.pl t.h.pc) hpa) rfl ⟨by omega, by omega⟩) ?_
  refine q_want rfl rfl h25 ?_
  refine q_val (v_field (fo := 2) (by kernel_rfl) rfl) ?_
  refine q_want rfl rfl h25 ?_
  refine q_val (v_load1o (by kernel_rfl) rfl (hc _ p hpi 2 _ rfl)) ?_
  refine q_want rfl rfl h25 ?_
  refine q_call (by kernel_rfl) (fun w hw => gr_MaySend _ _ _ _ w) ?_
  refine q_want rfl rfl h25 ?_
  refine q_val (v_not rfl) ?_
  refine q_val (v_pickF (v := .bool _) rfl h25 rfl) ?_
  refine q_nil ?_
  refine c_condN rfl rfl (fun h46 => ?_) (fun h46 => ?_)
  · refine c_exit ?_
    refine n_exit ?_
    refine n_bpast rfl ?_
    refine n_exit ?_
    refine n_bhere ?_
    refine n_bnormal ?_
    refine n_then ?_
    refine r_list (by kernel_rfl) ?_
    refine s_val (v_move (v := .int .i64 _) rfl) ?_
    refine s_val (v_add rfl rfl (by omega)) ?_
    refine s_val (v_rem (c := (((s.bank + 1) % 4 : Nat) : Int)) rfl rfl (by decide) (rem4 _)) ?_
    refine s_val (v_assign (v := .int .i64 _) rfl) ?_
    refine s_end ?_
    refine n_round (s := s) ⟨F21, t.h, t.ps, t.xs, t.v, t.E, (s.bank + 1) % 4, t.idle⟩ ⟨_, (by
      obtain ⟨e1, e2, e3⟩ := sw_round (s := s.q) (t := t.q) h4 (firstM_no hq hpi h46) hdr hid
      exact ⟨hok.learn hF21 _ _, Nat.mod_lt _ (by decide), e3, e1.trans hsw⟩), live5 rfl rfl rfl rfl rfl⟩ (fun _ hw => hw) (sw_round (s := s.q) (t := t.q) h4 (firstM_no hq hpi h46) hdr hid).2.1
  refine c_skip ?_
  refine n_then ?_
  refine t_seq (k := 4) (by kernel_rfl) (by kernel_rfl) (fun w hw => hw.drew) (by kernel_rfl) ?_
  refine q_val (v_loadA (m := 42) (by kernel_rfl) rfl (.app (.there .here)) (H.size _)) ?_
  refine q_val (v_move (v := .slice _ _ _) rfl) ?_
  refine q_val (v_idxS (size := 1) (k := .i64) (by kernel_rfl) rfl rfl ⟨by decide, hlen⟩) ?_
  refine q_val (v_load1o (v := I i) (by kernel_rfl) rfl hi0) ?_
  refine q_tail ?_
  refine s_callG (by kernel_rfl) (houseF_mono _ _ _ _) (fun w hw => gr_SettlePay t.h t.ps i w (hpy.at hw) (by omega) hlct) (fun F51 v51 hF51 hR51 => ?_)
  obtain ⟨h51, rfl, hco51, hlc51, hpo51⟩ := hR51
  have hcs := cnt_settle hst
  have hsum := hok.sum
  refine s_storeA (m := 42) (by kernel_rfl) rfl rfl (.app (.there .here)) (H.size _) (H.size _) (H.all1 _) ?_
  refine s_nil ?_
  refine r_seq (by kernel_rfl) ?_
  refine s_val (v_move (v := _) rfl) ?_
  refine s_val (v_move (v := .slice _ _ _) rfl) ?_
  refine s_val (v_idxS (size := 1) (k := .i64) (by kernel_rfl) rfl rfl ⟨by decide, hlen⟩) ?_
  refine s_val (v_load1o (v := I i) (by kernel_rfl) rfl (hF51 _ _ hi0)) ?_
  refine s_build1 (v := .int .i64 _) (e := 3) (m := 1) (by_ := 8) (by kernel_rfl) rfl rfl rfl (fill_scalar rfl) (fun b56 => ?_)
  refine s_push (e := 3) (m := 1) (by_ := 8) (by kernel_rfl) rfl rfl rfl rfl rfl hok.list rfl (all_scalar rfl rfl) (by omega) (fun v57 E57 hE57 => ?_)
  refine s_val (v_assign (v := _) rfl) ?_
  refine s_nil ?_
  refine r_list (by kernel_rfl) ?_
  refine s_val (v_assign (v := .int .i64 _) rfl) ?_
  refine s_end ?_
  refine n_bnormal ?_
  refine n_round (s := t) ⟨F51, h51, settleP t.ps i, t.xs ++ [i], v57, E57, 0, 0⟩ ⟨_, ⟨hok.go (fun a v h => hF51 a v (hF21 a v h)) hst hlc51 hpo51 hE57 _ _, (sw_drain hq hpi h46 hco51).trans hdr, .inr ⟨rfl, by
      simp only [List.length_append, List.length_cons, List.length_nil]; omega⟩⟩, live5 rfl rfl rfl rfl rfl⟩ (fun _ hw => hw) (by dsimp only; omega)

end Go.Proofs.Ytmkboljfbmlebaa
/- A region that draws its order, whose operations read, or call what hands back memory of its own: what each comes to follows from what it looks at, in whatever order. No condition. -/
namespace Go.Proofs.Ytmkboljfbmlebaa
open Go.RowKit
set_option linter.unusedSimpArgs false
set_option linter.unusedVariables false

def dstsOf (l : List Oper) : List Nat := l.filterMap (·.dst)
/-- what is looked at and set by one of them is set by one that binds; edges go back; each sets a slot of its own -/
def flowB (md : Region.Mode) (l : List Oper) : Bool :=
  (dstsOf l).Nodup && Region.noSelect l.toArray && l.zipIdx.all fun (o, i) => (o.looksAt l.toArray).all (fun t => l.zipIdx.all fun (u, j) => !(u.dst == some t) || o.after.any (fun e => Region.binds md e && e.on == j)) && o.after.all (fun e => !Region.binds md e || decide (e.on < i))
section
variable {P : Program} {n : Nat} {C : World → Prop} {f : Nat → Value} {l : List Oper} {Ψ : Nat → Value → World → Prop} {Q : Exit → (Nat → Value) → World → Prop}

/-- what one operation must do -/
def Ob (P : Program) (C : World → Prop) (f : Nat → Value) (l : List Oper) (Ψ : Nat → Value → World → Prop) (o : Oper) : Prop :=
  ∀ g w, C w → (∀ t ∈ o.looksAt l.toArray, (t ∈ dstsOf l → Ψ t (g t) w) ∧ (t ∉ dstsOf l → g t = f t)) →
    if Region.wanted o (yf l.toArray g) then opk P o g w (fun g' w' => ∃ v, g' = updo g o.dst v ∧ Bel w.heap.size w w' ∧ ∀ d, o.dst = some d → Ψ d v w') else ∀ d, o.dst = some d → Ψ d undef w
def Obs (P : Program) (C : World → Prop) (f : Nat → Value) (l : List Oper) (Ψ : Nat → Value → World → Prop) : List Oper → Prop
  | [] => True
  | o :: r => Ob P C f l Ψ o ∧ Obs P C f l Ψ r
theorem Obs.mem {r : List Oper} (h : Obs P C f l Ψ r) : ∀ o ∈ r, Ob P C f l Ψ o := by
  induction r with
  | nil => intro o ho; cases ho
  | cons x r ih =>
    intro o ho
    rcases List.mem_cons.1 ho with e | ho
    · rw [e]; exact h.1
    · exact ih h.2 o ho
def unset (b : Bool) : Bool := !b

structure FlowInv (C : World → Prop) (f : Nat → Value) (l : List Oper) (Ψ : Nat → Value → World → Prop) (s : Array Bool) (g : Nat → Value) (w : World) : Prop where
  size : s.size = l.length
  cls : C w
  done : ∀ (i : Nat) (o : Oper) (d : Nat), l[i]? = some o → s[i]? = some true → o.dst = some d → Ψ d (g d) w
  out : ∀ t, t ∉ dstsOf l → g t = f t

theorem dst_unique : ∀ {l : List Oper}, (dstsOf l).Nodup → ∀ {i j : Nat} {o u : Oper} {d : Nat}, l[i]? = some o → l[j]? = some u → o.dst = some d → u.dst = some d → i = j
  | [], _, i, j, o, u, d, h, _, _, _ => by simp at h
  | x :: r, hn, i, j, o, u, d, hi, hj, ho, hu => by
    have hmem : ∀ {k : Nat} {y : Oper}, r[k]? = some y → y.dst = some d → d ∈ dstsOf r := fun hk hy => List.mem_filterMap.2 ⟨_, List.mem_of_getElem? hk, hy⟩
    have hr : (dstsOf r).Nodup := by
      unfold dstsOf at hn
      cases hx : x.dst with
      | none => rw [List.filterMap_cons_none hx] at hn; exact hn
      | some e => rw [List.filterMap_cons_some hx] at hn; exact (List.nodup_cons.1 hn).2
    have hx0 : x.dst = some d → d ∉ dstsOf r := fun hx => by
      unfold dstsOf at hn
      rw [List.filterMap_cons_some hx] at hn
      exact (List.nodup_cons.1 hn).1
    cases i with
    | zero =>
      cases j with
      | zero => rfl
      | succ j =>
        simp at hi hj; subst hi
        exact absurd (hmem hj hu) (hx0 ho)
    | succ i =>
      cases j with
      | zero =>
        simp at hi hj; subst hj
        exact absurd (hmem hi ho) (hx0 hu)
      | succ j =>
        simp at hi hj
        rw [dst_unique hr hi hj ho hu]

theorem d_flow {id : Nat} (hm : P.follows .mixedOrders = true) (hB : opsB n l.toArray = true) (hF : flowB .any l = true) (hC : ∀ w w', C w → Bel w.heap.size w w' → C w')
    (hΨ : ∀ d v w w', C w → Bel w.heap.size w w' → Ψ d v w → Ψ d v w') (h : Obs P C f l Ψ l)
    (k : ∀ g w, C w → (∀ d ∈ dstsOf l, Ψ d (g d) w) → (∀ t, t ∉ dstsOf l → g t = f t) → Q .normal g w) : cC P n (.region id l.toArray true) Q f C := by
  simp only [flowB, Bool.and_eq_true, decide_eq_true_eq, List.all_eq_true] at hF
  obtain ⟨⟨hnd, hsel⟩, hall⟩ := hF
  have hop : ∀ (i : Nat) (o : Oper), l[i]? = some o → (∀ t ∈ o.looksAt l.toArray, ∀ (j : Nat) (u : Oper), l[j]? = some u → u.dst = some t → ∃ e ∈ o.after, Region.binds .any e = true ∧ e.on = j) ∧ (∀ e ∈ o.after, Region.binds .any e = true → e.on < i) := by
    intro i o hi
    have := hall (o, i) (List.mem_zipIdx_iff_getElem?.2 hi)
    simp only [Bool.and_eq_true, List.all_eq_true] at this
    obtain ⟨h1, h2⟩ := this
    refine ⟨fun t ht j u hj hu => ?_, fun e he hb => ?_⟩
    · have := h1 t ht (u, j) (List.mem_zipIdx_iff_getElem?.2 hj)
      simp [hu] at this
      obtain ⟨i', hi', e1, e2⟩ := this
      exact ⟨_, Array.getElem_mem hi', e1, e2⟩
    · have := Array.all_eq_true_iff_forall_mem.1 h2 e he
      simpa [hb] using this
  have hB' : ∀ o ∈ l, operB n l.toArray o = true := by simpa [opsB] using hB
  have main : ∀ (fuel : Nat) (s : Array Bool) (g : Nat → Value) (w : World), FlowInv C f l Ψ s g w → s.toList.countP unset ≤ fuel → wpAny P .any l.toArray (fun e a w => ∃ f, a = Fa n f ∧ Q e f w) fuel s (Fa n g) w := by
    have all : ∀ (s : Array Bool) (g : Nat → Value) (w : World), FlowInv C f l Ψ s g w → Region.ready .any l.toArray s = [] → Q .normal g w := by
      intro s g w inv hr
      have hls : ∀ i, i < l.length → s[i]? = some true := by
        intro i
        induction i using Nat.strongRecOn with
        | _ i ih =>
          intro hi
          have his : i < s.size := by rw [inv.size]; exact hi
          cases hv : s[i] with
          | true => simp [his, hv]
          | false =>
            exfalso
            have : i ∈ Region.ready .any l.toArray s := mem_ready.2 ⟨by simp [Array.getD, his, hv], l[i], by simp [hi], fun e he hb => by
              have hlt := (hop i l[i] (by simp [hi])).2 e he hb
              have := ih e.on hlt (by omega)
              have hsz := (Array.getElem?_eq_some_iff.1 this)
              obtain ⟨h1, h2⟩ := hsz
              simp [Array.getD, h1, h2]⟩
            rw [hr] at this
            cases this
      refine k g w inv.cls (fun d hd => ?_) inv.out
      obtain ⟨o, ho, hd'⟩ := List.mem_filterMap.1 hd
      obtain ⟨i, hi, he⟩ := List.getElem_of_mem ho
      exact inv.done i o d (by simp [hi, he]) (hls i hi) hd'
    intro fuel
    induction fuel with
    | zero =>
      intro s g w inv hc
      have hr : Region.ready .any l.toArray s = [] := by
        cases hr : Region.ready .any l.toArray s with
        | nil => rfl
        | cons i r =>
          exfalso
          have hi := (mem_ready.1 (show i ∈ Region.ready .any l.toArray s by rw [hr]; simp)).1
          have : false ∈ s.toList := by
            by_cases hs : i < s.size
            · simp [Array.getD, hs] at hi
              rw [← hi]; simp
            · simp [Array.getD, hs] at hi
          have := List.countP_pos_iff (p := unset).2 ⟨false, this, rfl⟩
          omega
      exact ⟨hr, g, rfl, all s g w inv hr⟩
    | succ fuel ih =>
      intro s g w inv hc
      refine ⟨fun hr => ⟨g, rfl, all s g w inv hr⟩, fun i hi => ?_⟩
      obtain ⟨hun, o, ho, hed⟩ := mem_ready.1 hi
      have hol : l[i]? = some o := by simpa using ho
      have hom : o ∈ l := List.mem_of_getElem? hol
      have his : i < s.size := by
        rcases Nat.lt_or_ge i s.size with h | h
        · exact h
        · have hn : ¬ i < s.size := by omega
          simp [Array.getD, hn] at hun
      have hfalse : s[i] = false := by simpa [Array.getD, his] using hun
      have hcount : (s.setIfInBounds i true).toList.countP unset ≤ fuel := by
        have e1 : unset (s.toList[i]'(by simpa using his)) = true := by simp [unset, hfalse]
        have h0 : 0 < s.toList.countP unset := List.countP_pos_iff.2 ⟨s.toList[i]'(by simpa using his), List.getElem_mem _, e1⟩
        rw [Array.toList_setIfInBounds, List.countP_set (by simpa using his), if_pos e1, if_neg (by simp [unset])]
        omega
      have hob := h.mem o hom g w inv.cls (fun t ht => ⟨fun htd => by
        obtain ⟨u, hu, hut⟩ := List.mem_filterMap.1 htd
        obtain ⟨j, hj, he⟩ := List.getElem_of_mem hu
        have hj' : l[j]? = some u := by simp [hj, he]
        obtain ⟨e, he1, he2, he3⟩ := (hop i o hol).1 t ht j u hj' hut
        have := hed e he1 he2
        rw [he3] at this
        refine inv.done j u t hj' ?_ hut
        have hjs : j < s.size := by rw [inv.size]; exact hj
        simp [Array.getD, hjs] at this
        simp [hjs, this], inv.out t⟩)
      have next : ∀ v w', Bel w.heap.size w w' → (∀ d, o.dst = some d → Ψ d v w') → FlowInv C f l Ψ (s.setIfInBounds i true) (updo g o.dst v) w' := by
        intro v w' hbel hv
        refine ⟨by simp [inv.size], hC w w' inv.cls hbel, fun j u d hj hs hu => ?_, fun t ht => ?_⟩
        · by_cases hji : j = i
          · subst hji
            rw [hol] at hj
            simp at hj; subst hj
            rw [hu]
            simp only [updo, upd_same]
            exact hv d hu
          · have hs' : s[j]? = some true := by rw [Array.getElem?_setIfInBounds_ne (Ne.symm hji)] at hs; exact hs
            have hne : o.dst ≠ some d := fun e => hji (dst_unique hnd hj hol hu e)
            have := hΨ d _ w w' inv.cls hbel (inv.done j u d hj hs' hu)
            cases hod : o.dst with
            | none => exact this
            | some d' =>
              simp only [updo]
              rw [upd_other g v (fun e => hne (by rw [hod, e]))]
              exact this
        · cases hod : o.dst with
          | none => exact inv.out t ht
          | some d' =>
            simp only [updo]
            rw [upd_other g v (fun e => ht (List.mem_filterMap.2 ⟨o, hom, by rw [hod, e]⟩))]
            exact inv.out t ht
      unfold wpOp
      simp only [ho]
      rw [Fa_wanted (hB' o hom)]
      split
      · rename_i hw
        rw [if_pos hw] at hob
        refine Or.inl ?_
        unfold Oper.wp
        rw [Fa_exec (hB' o hom)]
        unfold opk at hob
        generalize (execOp (ev g) o).run P w = r at hob
        cases r with
        | ok nx w' =>
          cases nx <;> simp only at hob <;> simp only [Oper.upon]
          case value v =>
            obtain ⟨v', e, hbel, hv⟩ := hob
            rw [Fa_put, e]
            exact ih _ _ _ (next v' w' hbel hv) hcount
          case skip =>
            obtain ⟨v', e, hbel, hv⟩ := hob
            rw [Fa_put, e]
            exact ih _ _ _ (next v' w' hbel hv) hcount
          case enter fn args =>
            refine Calls.mono hob fun e w'' ⟨v, he, v', e', hbel, hv⟩ => ?_
            subst he
            show wpAny P .any l.toArray _ fuel _ ((Fa n g).put o.dst v) w''
            rw [Fa_put, e']
            exact ih _ _ _ (next v' w'' hbel hv) hcount
        | halt x w' => exact hob.elim
      · rename_i hw
        rw [if_neg hw] at hob
        rw [Fa_put]
        exact ih _ _ _ (next undef w (Bel.refl _ _) hob) hcount
  intro w hw
  refine wp_region_any hm ?_
  refine main _ _ f w.drew ⟨by simp, hC w _ hw ((Bel.refl _ _).drew), fun i o d hi hs hd => ?_, fun _ _ => rfl⟩ ?_
  · rw [Array.getElem?_replicate] at hs
    split at hs <;> simp at hs
  · have := List.countP_le_length (p := unset) (l := (Array.replicate l.toArray.size false).toList)
    simpa using this
end
end Go.Proofs.Ytmkboljfbmlebaa
/- Structs put together, tuples taken apart, replies and lists of numbers compared. No condition. -/
namespace Go.Proofs.Ytmkboljfbmlebaa
open Go.RowKit
set_option linter.unusedSimpArgs false
set_option linter.unusedVariables false

section
variable {P : Program} {f : Nat → Value} {C : World → Prop} {dst : Option Nat} {ty : TypeId} {pos : String} {af : Array Edge} {gd : Option (Nat × Bool)}
theorem v_build {T : TypeId} {parts : List (Nat × Operand)} {vs : List (Nat × Value)} {cs : Array Value} (hv : parts.map (fun p => (p.1, ev f p.2)) = vs) (h : P.built T vs = some cs) : Val P f C ⟨dst, .build T parts.toArray, ty, pos, af, gd⟩ (.agg cs) :=
  ⟨fun w _ => by
    have e : (parts.toArray.map fun p => (p.1, ev f p.2)) = vs.toArray := by simp [hv]
    have hr := run_build (P := P) w T vs.toArray cs (by simpa using h)
    simp only [execOp]
    rw [e]
    simp [hr]⟩
theorem v_extract {x : Operand} {vs : Array Value} {i : Nat} {v : Value} (hx : ev f x = .tuple vs) (hi : vs[i]? = some v) : Val P f C ⟨dst, .extract x i, ty, pos, af, gd⟩ v :=
  ⟨fun w _ => by simp [execOp, hx, Instr.extract, hi]⟩
end
/-- where a list's numbers stand -/
def IntsAt (F : Addr → Value → Prop) (a : Option Addr) (xs : List Int) : Prop := xs = [] ∨ ∃ b o, a = some ⟨b, o, none⟩ ∧ ∀ (j : Nat) (x : Int), xs[j]? = some x → F ⟨b, o + j, none⟩ (I x)
theorem IntsIn.at {F : Addr → Value → Prop} {v : Value} {xs : List Int} (h : IntsIn F v xs) : ∃ a c, v = .slice a xs.length c ∧ IntsAt F a xs := h
theorem IntsAt.mono {F F' : Addr → Value → Prop} {a : Option Addr} {xs : List Int} (h : IntsAt F a xs) (hm : More F F') : IntsAt F' a xs := by
  rcases h with h | ⟨b, o, h1, h2⟩
  · exact .inl h
  · exact .inr ⟨b, o, h1, fun j x hj => hm _ _ (h2 j x hj)⟩
theorem IntsAt.get {F : Addr → Value → Prop} {a : Option Addr} {xs : List Int} (h : IntsAt F a xs) {j : Nat} (hj : j < xs.length) : ∃ b o x, a = some ⟨b, o, none⟩ ∧ xs[j]? = some x ∧ F ⟨b, o + j, none⟩ (I x) := by
  rcases h with rfl | ⟨b, o, h1, h2⟩
  · simp at hj
  · exact ⟨b, o, xs[j], h1, by simp [hj], h2 j _ (by simp [hj])⟩
theorem IntsAt.at {w0 w : World} {F : Addr → Value → Prop} {L : List (Nat × Obj)} {a : Option Addr} {xs : List Int} (h : IntsAt F a xs) (hw : Has w0 F L w) : IntsAt (At w) a xs := h.mono hw.at
def repC (c n : Int) (v : Value) : Array Value := #[I c, I n, v]
def sameRB (c1 n1 : Int) (xs : List Int) (c2 n2 : Int) (ys : List Int) : Bool := decide (c1 = c2) && decide (n1 = n2) && decide (xs = ys)
theorem same_take {xs ys : List Int} {j : Nat} {x y : Int} (h : xs.take j = ys.take j) (hx : xs[j]? = some x) (hy : ys[j]? = some y) (he : x = y) : xs.take (j + 1) = ys.take (j + 1) := by
  rw [List.take_add_one, List.take_add_one, h, hx, hy, he]
theorem ints_all {xs ys : List Int} {j : Nat} (hl : (xs.length : Int) = ys.length) (h : xs.take j = ys.take j) (hj : ¬ (j : Int) < xs.length) : xs = ys := by
  rw [List.take_of_length_le (by omega), List.take_of_length_le (by omega)] at h; exact h
theorem ints_bad {xs ys : List Int} {j : Nat} {x y : Int} (hx : xs[j]? = some x) (hy : ys[j]? = some y) (he : ¬ x = y) : ¬ xs = ys := by
  rintro rfl; rw [hx] at hy; simp at hy; exact he hy
theorem ints_len {xs ys : List Int} (hl : ¬ (xs.length : Int) = ys.length) : ¬ xs = ys := by rintro rfl; exact hl rfl
end Go.Proofs.Ytmkboljfbmlebaa
/- Contracts of the comparisons of the document side. Condition: the lists lie in memory that is known. -/
namespace Go.Proofs.Ytmkboljfbmlebaa
open Go.RowKit
set_option linter.unusedSimpArgs false
set_option linter.unusedVariables false
set_option maxRecDepth 100000
attribute [local irreducible] cC sC nC rC qw

theorem gr_SameReply (c1 n1 c2 n2 : Int) (a1 a2 : Option Addr) (p1 p2 : Nat) (xs ys : List Int) (w : World) (hx : IntsAt (At w) a1 xs) (hy : IntsAt (At w) a2 ys) (hb : xs.length ≤ 9223372036854775807) : Gives Try.prog 69 [.agg (repC c1 n1 (.slice a1 xs.length p1)), .agg (repC c2 n2 (.slice a2 ys.length p2))] w (.bool (sameRB c1 n1 xs c2 n2 ys)) := by
  refine gives_of Try.func69 rfl Try.ntmps69 (by simp) ?_
  refine r_seq (by kernel_rfl) ?_
  refine s_box (v := .agg _) rfl (fun b2 => ?_)
  refine s_box (v := .agg _) rfl (fun b3 => ?_)
  refine s_val (v_assign (v := .bool _) rfl) ?_
  refine s_nil ?_
  refine c_seq ?_
  refine r_seq (by kernel_rfl) ?_
  refine s_val (v_field (fo := 0) (by kernel_rfl) rfl) ?_
  refine s_val (v_load1 (v := .int .i64 _) (by kernel_rfl) rfl (.there .here) rfl) ?_
  refine s_val (v_field (fo := 0) (by kernel_rfl) rfl) ?_
  refine s_val (v_load1 (v := .int .i64 _) (by kernel_rfl) rfl .here rfl) ?_
  refine s_val (v_neq (k := .i64) rfl rfl) ?_
  refine s_val (v_move (v := .bool _) rfl) ?_
  refine s_splitN (s := 11) rfl (fun h11 => ?_) (fun h11 => ?_)
  · refine s_pass rfl rfl (congrArg not h11) ?_
    refine s_pass rfl rfl (congrArg not h11) ?_
    refine s_pass rfl rfl (congrArg not h11) ?_
    refine s_pass rfl rfl (congrArg not h11) ?_
    refine s_pass rfl rfl (congrArg not h11) ?_
    refine s_val (v_pickT (v := .bool _) rfl (congrArg not h11) rfl) ?_
    refine s_val (v_move (v := .bool _) rfl) ?_
    refine s_pass (g := true) rfl rfl rfl ?_
    refine s_pass (g := true) rfl rfl rfl ?_
    refine s_pass (g := true) rfl rfl rfl ?_
    refine s_pass (g := true) rfl rfl rfl ?_
    refine s_pass (g := true) rfl rfl rfl ?_
    refine s_pass (g := true) rfl rfl rfl ?_
    refine s_pass (g := true) rfl rfl rfl ?_
    refine s_val (v_pickT (v := .bool _) rfl rfl rfl) ?_
    refine s_nil ?_
    refine c_condTh rfl rfl rfl ?_
    refine r_seq (by kernel_rfl) ?_
    refine s_val (v_assign (v := .bool _) rfl) ?_
    refine s_nil ?_
    refine c_ret ?_
    refine n_ret ?_
    refine n_done rfl (by decide) (Eq.trans (b := .bool _) rfl (congrArg Value.bool ?_))
    simp only [sameRB, *, Bool.true_and, Bool.false_and, Bool.and_true, Bool.and_false, Bool.not_true, Bool.not_false, Bool.true_or, Bool.or_true, Bool.false_or, Bool.or_false, cond_true, cond_false, if_true, if_false, Bool.false_eq_true, decide_true, decide_false]
  refine s_want rfl rfl (congrArg not h11) ?_
  refine s_val (v_field (fo := 1) (by kernel_rfl) rfl) ?_
  refine s_want rfl rfl (congrArg not h11) ?_
  refine s_val (v_load1 (v := .int .i64 _) (by kernel_rfl) rfl (.there .here) rfl) ?_
  refine s_want rfl rfl (congrArg not h11) ?_
  refine s_val (v_field (fo := 1) (by kernel_rfl) rfl) ?_
  refine s_want rfl rfl (congrArg not h11) ?_
  refine s_val (v_load1 (v := .int .i64 _) (by kernel_rfl) rfl .here rfl) ?_
  refine s_want rfl rfl (congrArg not h11) ?_
  refine s_val (v_neq (k := .i64) rfl rfl) ?_
  refine s_val (v_pickF (v := .bool _) rfl (congrArg not h11) rfl) ?_
  refine s_val (v_move (v := .bool _) rfl) ?_
  refine s_splitN (s := 18) rfl (fun h18 => ?_) (fun h18 => ?_)
  · refine s_pass rfl rfl (congrArg not h18) ?_
    refine s_pass rfl rfl (congrArg not h18) ?_
    refine s_pass rfl rfl (congrArg not h18) ?_
    refine s_pass rfl rfl (congrArg not h18) ?_
    refine s_pass rfl rfl (congrArg not h18) ?_
    refine s_pass rfl rfl (congrArg not h18) ?_
    refine s_pass rfl rfl (congrArg not h18) ?_
    refine s_val (v_pickT (v := .bool _) rfl (congrArg not h18) rfl) ?_
    refine s_nil ?_
    refine c_condTh rfl rfl rfl ?_
    refine r_seq (by kernel_rfl) ?_
    refine s_val (v_assign (v := .bool _) rfl) ?_
    refine s_nil ?_
    refine c_ret ?_
    refine n_ret ?_
    refine n_done rfl (by decide) (Eq.trans (b := .bool _) rfl (congrArg Value.bool ?_))
    simp only [sameRB, *, Bool.true_and, Bool.false_and, Bool.and_true, Bool.and_false, Bool.not_true, Bool.not_false, Bool.true_or, Bool.or_true, Bool.false_or, Bool.or_false, cond_true, cond_false, if_true, if_false, Bool.false_eq_true, decide_true, decide_false]
  refine s_want rfl rfl (congrArg not h18) ?_
  refine s_val (v_field (fo := 2) (by kernel_rfl) rfl) ?_
  refine s_want rfl rfl (congrArg not h18) ?_
  refine s_val (v_load1 (v := .slice _ _ _) (by kernel_rfl) rfl (.there .here) rfl) ?_
  refine s_want rfl rfl (congrArg not h18) ?_
  refine s_val (v_lenS (T := 43) (m := 1) (by kernel_rfl) rfl rfl) ?_
  refine s_want rfl rfl (congrArg not h18) ?_
  refine s_val (v_field (fo := 2) (by kernel_rfl) rfl) ?_
  refine s_want rfl rfl (congrArg not h18) ?_
  refine s_val (v_load1 (v := .slice _ _ _) (by kernel_rfl) rfl .here rfl) ?_
  refine s_want rfl rfl (congrArg not h18) ?_
  refine s_val (v_lenS (T := 43) (m := 1) (by kernel_rfl) rfl rfl) ?_
  refine s_want rfl rfl (congrArg not h18) ?_
  refine s_val (v_neq (k := .i64) rfl rfl) ?_
  refine s_val (v_pickF (v := .bool _) rfl (congrArg not h18) rfl) ?_
  refine s_nil ?_
  refine c_condN rfl rfl (fun h26 => ?_) (fun h26 => ?_)
  · refine r_seq (by kernel_rfl) ?_
    refine s_val (v_assign (v := .bool _) rfl) ?_
    refine s_nil ?_
    refine c_ret ?_
    refine n_ret ?_
    refine n_done rfl (by decide) (Eq.trans (b := .bool _) rfl (congrArg Value.bool ?_))
    have e := ints_len (of_decide_eq_false h26)
    simp only [sameRB, *, Bool.true_and, Bool.false_and, Bool.and_true, Bool.and_false, Bool.not_true, Bool.not_false, Bool.true_or, Bool.or_true, Bool.false_or, Bool.or_false, cond_true, cond_false, if_true, if_false, Bool.false_eq_true, decide_true, decide_false]
  refine c_skip ?_
  refine n_then ?_
  refine c_seq ?_
  refine r_seq (by kernel_rfl) ?_
  refine s_val (v_field (fo := 2) (by kernel_rfl) rfl) ?_
  refine s_val (v_load1 (v := .slice _ _ _) (by kernel_rfl) rfl (.there .here) rfl) ?_
  refine s_val (v_lenS (T := 43) (m := 1) (by kernel_rfl) rfl rfl) ?_
  refine s_val (v_move (v := .int .i64 _) rfl) ?_
  refine s_nil ?_
  refine c_block ?_
  refine c_loop (σ := Nat) (fun (j : Nat) f => ∃ g, (j ≤ xs.length ∧ xs.take j = ys.take j) ∧ f = (upd (upd (upd (upd g 2 (.pointer (some ⟨b2, 0, none⟩))) 3 (.pointer (some ⟨b3, 0, none⟩))) 29 (I xs.length)) 30 (I j))) (fun (j : Nat) => Has w (At w) [(b3, .cells (repC c2 n2 (.slice a2 ys.length p2)) 74), (b2, .cells (repC c1 n1 (.slice a1 xs.length p1)) 74)]) (fun (j : Nat) => xs.length - j) 0 ⟨_, ⟨Nat.zero_le _, rfl⟩, live4 rfl rfl rfl rfl⟩ (fun w hw => hw) ?_
  rintro j _ ⟨g, ⟨hjl, hinv⟩, rfl⟩
  refine r_seq (by kernel_rfl) ?_
  refine s_val (v_lss (k := .i64) rfl rfl) ?_
  refine s_nil ?_
  refine c_seq ?_
  refine c_condR rfl rfl (fun h31 => ?_) (fun h31 => ?_)
  · refine c_exit ?_
    refine n_exit ?_
    refine n_exit ?_
    refine n_bhere ?_
    refine n_then ?_
    refine r_seq (by kernel_rfl) ?_
    refine s_val (v_assign (v := .bool _) rfl) ?_
    refine s_nil ?_
    refine c_ret ?_
    refine n_done rfl (by decide) (Eq.trans (b := .bool _) rfl (congrArg Value.bool ?_))
    have e := ints_all (of_decide_eq_true h26) hinv (of_decide_eq_false h31)
    simp only [sameRB, *, Bool.true_and, Bool.false_and, Bool.and_true, Bool.and_false, Bool.not_true, Bool.not_false, Bool.true_or, Bool.or_true, Bool.false_or, Bool.or_false, cond_true, cond_false, if_true, if_false, Bool.false_eq_true, decide_true, decide_false]
  have hj0 := of_decide_eq_true h31
  have hll := of_decide_eq_true h26
  obtain ⟨b, o, x, ha1, hxj, hfx⟩ := hx.get (j := j) (by omega)
  obtain ⟨b', o', y, ha2, hyj, hfy⟩ := hy.get (j := j) (by omega)
  refine c_skip ?_
  refine n_then ?_
  refine c_seq ?_
  refine c_block ?_
  refine r_seq (by kernel_rfl) ?_
  refine s_val (v_move (v := .int .i64 _) rfl) ?_
  refine s_val (v_assign (v := .int .i64 _) rfl) ?_
  refine s_nil ?_
  refine d_seq (by kernel_rfl) (by kernel_rfl) (fun w hw => hw.drew) (by kernel_rfl) ?_
  refine q_val (v_field (fo := 2) (by kernel_rfl) rfl) ?_
  refine q_val (v_load1 (v := .slice _ _ _) (by kernel_rfl) rfl (.there .here) rfl) ?_
  refine q_val (v_move (v := .int .i64 _) rfl) ?_
  refine q_val (v_idxS (size := 1) (k := .i64) (by kernel_rfl) (congrArg (fun a => Value.slice a xs.length p1) ha1) rfl ⟨by omega, by omega⟩) ?_
  refine q_val (v_load1o (v := I x) (by kernel_rfl) rfl (by simpa using hfx)) ?_
  refine q_val (v_field (fo := 2) (by kernel_rfl) rfl) ?_
  refine q_val (v_load1 (v := .slice _ _ _) (by kernel_rfl) rfl .here rfl) ?_
  refine q_val (v_move (v := .int .i64 _) rfl) ?_
  refine q_val (v_idxS (size := 1) (k := .i64) (by kernel_rfl) (congrArg (fun a => Value.slice a ys.length p2) ha2) rfl ⟨by omega, by omega⟩) ?_
  refine q_val (v_load1o (v := I y) (by kernel_rfl) rfl (by simpa using hfy)) ?_
  refine q_val (v_neq (k := .i64) rfl rfl) ?_
  refine q_nil ?_
  refine c_condNR rfl rfl (fun h43 => ?_) (fun h43 => ?_)
  · refine c_skip ?_
    refine n_bnormal ?_
    refine n_then ?_
    refine r_list (by kernel_rfl) ?_
    refine s_val (v_add rfl rfl (by omega)) ?_
    refine s_val (v_move (v := .int .i64 _) rfl) ?_
    refine s_end ?_
    refine n_round (j + 1) ⟨_, ⟨by omega, same_take hinv hxj hyj (of_decide_eq_true h43)⟩, live4 rfl rfl rfl rfl⟩ (fun _ hw => hw) (by omega)
  refine r_seq (by kernel_rfl) ?_
  refine s_val (v_assign (v := .bool _) rfl) ?_
  refine s_nil ?_
  refine c_ret ?_
  refine n_bret ?_
  refine n_ret ?_
  refine n_ret ?_
  refine n_bret ?_
  refine n_ret ?_
  refine n_done rfl (by decide) (Eq.trans (b := .bool _) rfl (congrArg Value.bool ?_))
  have e := ints_bad hxj hyj (of_decide_eq_false h43)
  simp only [sameRB, *, Bool.true_and, Bool.false_and, Bool.and_true, Bool.and_false, Bool.not_true, Bool.not_false, Bool.true_or, Bool.or_true, Bool.false_or, Bool.or_false, cond_true, cond_false, if_true, if_false, Bool.false_eq_true, decide_true, decide_false]

theorem gr_SameInts (a1 a2 : Option Addr) (p1 p2 : Nat) (xs ys : List Int) (w : World) (hx : IntsAt (At w) a1 xs) (hy : IntsAt (At w) a2 ys) (hb : xs.length ≤ 9223372036854775807) : Gives Try.prog 34 [.slice a1 xs.length p1, .slice a2 ys.length p2] w (.bool (decide (xs = ys))) := by
  refine gives_of Try.func34 rfl Try.ntmps34 (by simp) ?_
  refine r_seq (by kernel_rfl) ?_
  refine s_val (v_assign (v := .bool _) rfl) ?_
  refine s_nil ?_
  refine r_seq (by kernel_rfl) ?_
  refine s_val (v_move (v := .slice _ _ _) rfl) ?_
  refine s_val (v_build (vs := [(2, .slice _ _ _)]) (cs := repC 0 0 (.slice a1 xs.length p1)) rfl (by kernel_rfl)) ?_
  refine s_val (v_move (v := .slice _ _ _) rfl) ?_
  refine s_val (v_build (vs := [(2, .slice _ _ _)]) (cs := repC 0 0 (.slice a2 ys.length p2)) rfl (by kernel_rfl)) ?_
  refine s_call (by kernel_rfl) (fun w hw => gr_SameReply 0 0 0 0 _ _ _ _ _ _ w (hx.at hw) (hy.at hw) hb) ?_
  refine s_val (v_assign (v := .bool _) rfl) ?_
  refine s_nil ?_
  refine c_ret ?_
  refine n_done rfl (by decide) (Eq.trans (b := .bool _) rfl (congrArg Value.bool ?_))
  simp [sameRB]

end Go.Proofs.Ytmkboljfbmlebaa
/- The steps of a region that draws its order, one operation at a time. No condition. -/
namespace Go.Proofs.Ytmkboljfbmlebaa
open Go.RowKit
set_option linter.unusedSimpArgs false
set_option linter.unusedVariables false

theorem at_below {w w' : World} (h : Bel w.heap.size w w') : More (At w) (At w') := fun a v ha => by
  show w'.cell? a = some v
  rw [h.cell (cell_lt ha)]; exact ha
theorem fresh_at (w w' : World) : More (Fresh w w') (At w') := fun _ _ h => h.1
/-- what each slot holds, said of the memory that is there -/
def Tab (T : Nat → (Addr → Value → Prop) → Value → Prop) (d : Nat) (v : Value) (w : World) : Prop := T d (At w) v
def Eqv (x : Value) : (Addr → Value → Prop) → Value → Prop := fun _ v => v = x
def Any : (Addr → Value → Prop) → Value → Prop := fun _ _ => True
def row (d : Nat) (R : (Addr → Value → Prop) → Value → Prop) (T : Nat → (Addr → Value → Prop) → Value → Prop) : Nat → (Addr → Value → Prop) → Value → Prop := fun i => bif Nat.beq i d then R else T i
theorem eqv_mono (x : Value) : Mono (Eqv x) := fun _ _ _ _ h => h
theorem any_mono : Mono Any := fun _ _ _ _ _ => trivial
theorem ints_mono (xs : List Int) : Mono (fun F v => IntsIn F v xs) := fun _ _ _ hm h => h.mono hm
theorem row_mono {d : Nat} {R : (Addr → Value → Prop) → Value → Prop} {T : Nat → (Addr → Value → Prop) → Value → Prop} (hR : Mono R) (hT : ∀ i, Mono (T i)) : ∀ i, Mono (row d R T i) := fun i => by
  unfold row
  cases Nat.beq i d
  · exact hT i
  · exact hR
section
variable {P : Program} {n : Nat} {f : Nat → Value} {l : List Oper} {T : Nat → (Addr → Value → Prop) → Value → Prop} {Q : Exit → (Nat → Value) → World → Prop} {w0 : World} {F : Addr → Value → Prop} {L : List (Nat × Obj)}
theorem f_list {id : Nat} (hm : P.follows .mixedOrders = true) (hB : opsB n l.toArray = true) (hF : flowB .any l = true) (hT : ∀ i, Mono (T i)) (h : Obs P (Has w0 F L) f l (Tab T) l)
    (k : ∀ g w, Has w0 F L w → (∀ d ∈ dstsOf l, T d (At w) (g d)) → (∀ t, t ∉ dstsOf l → g t = f t) → Q .normal g w) : cC P n (.region id l.toArray true) Q f (Has w0 F L) :=
  d_flow hm hB hF (fun w w' hw hb => hw.below hb) (fun d v w w' _ hb h => hT d _ _ v (at_below hb) h) h k
theorem f_seq {id : Nat} {y : Code} (hm : P.follows .mixedOrders = true) (hB : opsB n l.toArray = true) (hF : flowB .any l = true) (hT : ∀ i, Mono (T i)) (h : Obs P (Has w0 F L) f l (Tab T) l)
    (k : ∀ g w, Has w0 F L w → (∀ d ∈ dstsOf l, T d (At w) (g d)) → (∀ t, t ∉ dstsOf l → g t = f t) → cw P n y Q g w) : cC P n (.seq (.region id l.toArray true) y) Q f (Has w0 F L) :=
  c_seq (f_list hm hB hF hT h k)
/-- one operation, its guard told -/
def Ox (P : Program) (T : Nat → (Addr → Value → Prop) → Value → Prop) (d : Nat) (op : Op) (ty : TypeId) (pos : String) (af : Array Edge) (gd : Option (Nat × Bool)) (g : Nat → Value) (w : World) : Prop :=
  opk P ⟨some d, op, ty, pos, af, gd⟩ g w (fun g' w' => ∃ v, g' = updo g (some d) v ∧ Bel w.heap.size w w' ∧ ∀ e, some d = some e → Tab T e v w')
variable {d : Nat} {op : Op} {ty : TypeId} {pos : String} {af : Array Edge} {C : World → Prop}
theorem ob_free (h : ∀ (g : Nat → Value) (w : World), C w → (∀ t ∈ (⟨some d, op, ty, pos, af, none⟩ : Oper).looksAt l.toArray, (t ∈ dstsOf l → Tab T t (g t) w) ∧ (t ∉ dstsOf l → g t = f t)) → Ox P T d op ty pos af none g w) : Ob P C f l (Tab T) ⟨some d, op, ty, pos, af, none⟩ := by
  intro g w hw hl
  rw [if_pos wanted_free]
  exact h g w hw hl
theorem ob_want {j s : Nat} {b : Bool} (hj : (l.toArray[j]?).bind (·.dst) = some s) (hs : ∀ (g : Nat → Value) (w : World), C w → (∀ t ∈ (⟨some d, op, ty, pos, af, some (j, b)⟩ : Oper).looksAt l.toArray, (t ∈ dstsOf l → Tab T t (g t) w) ∧ (t ∉ dstsOf l → g t = f t)) → g s = .bool b ∧ Ox P T d op ty pos af (some (j, b)) g w) : Ob P C f l (Tab T) ⟨some d, op, ty, pos, af, some (j, b)⟩ := by
  intro g w hw hl
  obtain ⟨h1, h2⟩ := hs g w hw hl
  have : Region.wanted ⟨some d, op, ty, pos, af, some (j, b)⟩ (yf l.toArray g) = true := by
    simp only [Region.wanted, yf, hj, h1]
    simp
  rw [if_pos this]
  exact h2
theorem ob_pass {j s : Nat} {b c : Bool} (hj : (l.toArray[j]?).bind (·.dst) = some s) (hs : ∀ (g : Nat → Value) (w : World), C w → (∀ t ∈ (⟨some d, op, ty, pos, af, some (j, b)⟩ : Oper).looksAt l.toArray, (t ∈ dstsOf l → Tab T t (g t) w) ∧ (t ∉ dstsOf l → g t = f t)) → g s = .bool c ∧ c = !b ∧ ∀ w, Tab T d undef w) : Ob P C f l (Tab T) ⟨some d, op, ty, pos, af, some (j, b)⟩ := by
  intro g w hw hl
  obtain ⟨h1, h2, h3⟩ := hs g w hw hl
  have : ¬ Region.wanted ⟨some d, op, ty, pos, af, some (j, b)⟩ (yf l.toArray g) = true := by
    subst h2
    simp only [Region.wanted, yf, hj, h1]
    cases b <;> simp
  rw [if_neg this]
  intro e he
  simp at he; subst he
  exact h3 w
variable {g : Nat → Value} {w : World} {gd : Option (Nat × Bool)} {v : Value}
theorem x_val (hv : Val P g C ⟨some d, op, ty, pos, af, gd⟩ v) (hw : C w) (ht : T d (At w) v) : Ox P T d op ty pos af gd g w := by
  unfold Ox opk
  rw [hv.out w hw]
  exact ⟨v, rfl, Bel.refl _ _, fun e he => by simp at he; subst he; exact ht⟩
theorem x_call {k : FuncId} {xs : List Operand} {ats : Array TypeId} {vs : List Value} (hk : hasBody P k = true) (hx : xs.map (ev g) = vs) (hg : Gives P k vs w v) (ht : ∀ w', T d (At w') v) : Ox P T d (.call ⟨.value (.func k), xs.toArray, ats⟩) ty pos af gd g w := by
  unfold Ox opk
  rw [run_call hk w, hx]
  exact hg.out.mono fun e w' ⟨he, hb⟩ => ⟨v, he, v, rfl, hb, fun e he => by simp at he; subst he; exact ht w'⟩
theorem x_callF {k : FuncId} {xs : List Operand} {ats : Array TypeId} {vs : List Value} {R : (Addr → Value → Prop) → Value → Prop} (hk : hasBody P k = true) (hx : xs.map (ev g) = vs) (hg : GivesF P k vs w R) (ht : ∀ w' v, Bel w.heap.size w w' → R (Fresh w w') v → T d (At w') v) : Ox P T d (.call ⟨.value (.func k), xs.toArray, ats⟩) ty pos af gd g w := by
  unfold Ox opk
  rw [run_call hk w, hx]
  exact hg.out.mono fun e w' ⟨v, he, hb, hr⟩ => ⟨v, he, v, rfl, hb, fun e he => by simp at he; subst he; exact ht w' v hb hr⟩
theorem cC_at {y : Code} (h : cC P n y Q g C) (hw : C w) : cw P n y Q g w := h w hw
theorem nC_at (h : nC Q .normal g C) (hw : C w) : Q .normal g w := h w hw
end
end Go.Proofs.Ytmkboljfbmlebaa
