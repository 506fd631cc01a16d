/- What knotTells_holds stands on, part 13: each part says what it proves. No condition beside those that it names. -/
import Derived.Test.YtmkboljfbmlebaaPL512
/- Contract of the document side of the most. Condition: the payments lie in memory that is known. -/
namespace Go.Proofs.Ytmkboljfbmlebaa
open Go.RowKit
set_option linter.unusedSimpArgs false
set_option linter.unusedVariables false
set_option maxRecDepth 100000
attribute [local irreducible] cC sC nC rC qw

set_option maxHeartbeats 4000000 in
theorem gr_MostOf (h : H) (ps : List PayS) (w : World) (hp : PaysIn (At w) h.pa h.pl ps) (hb : h.pl * 48 ≤ 281474976710656) (hlc : h.pl ≤ h.pc) : Gives Try.prog 46 [.agg h.cells] w (.agg (rowA (mostM h.core ps))) := by
  refine gives_of Try.func46 rfl Try.ntmps46 (by simp) ?_
  refine r_seq (by kernel_rfl) ?_
  refine s_box (v := .agg _) rfl (fun b1 => ?_)
  refine s_alloc (z := .agg (rowA fun _ => 0)) (by kernel_rfl) (fun b2 => ?_)
  refine s_nil ?_
  refine r_seq (by kernel_rfl) ?_
  refine s_alloc (z := .agg (rowA fun _ => 0)) (by kernel_rfl) (fun b3 => ?_)
  refine s_alloc (z := .agg (rowA fun _ => 0)) (by kernel_rfl) (fun b4 => ?_)
  refine s_alloc (z := .agg (rowA fun _ => 0)) (by kernel_rfl) (fun b5 => ?_)
  refine s_nil ?_
  refine c_seq ?_
  refine r_seq (by kernel_rfl) ?_
  refine s_val (v_loadA (m := 42) (by kernel_rfl) rfl (.there (.there (.there (.there .here)))) (H.size _)) ?_
  refine s_call (by kernel_rfl) (fun w hw => gr_IsHouse _ ps w (hp.at hw) hb hlc) ?_
  refine s_val (v_not rfl) ?_
  refine s_nil ?_
  refine c_condN rfl rfl (fun h13 => ?_) (fun h13 => ?_)
  · refine r_seq (by kernel_rfl) ?_
    refine s_val (v_loadA (m := 4) (by kernel_rfl) rfl (.there (.there .here)) (rowA_size _)) ?_
    refine s_storeA (m := 4) (by kernel_rfl) rfl rfl (.there (.there (.there .here))) (rowA_size _) (rowA_size _) (rowA_all _) ?_
    refine s_nil ?_
    refine c_ret ?_
    refine n_ret ?_
    refine n_doneC (m := 4) rfl (by decide) rfl (by kernel_rfl) (.there (.there (.there .here))) (rowA_size _) (congrArg Value.agg ?_)
    rw [mostM_bad (show goodB h.core ps = false from (isHouse_eq hp.1).symm.trans h13)]
    rfl
  refine c_skip ?_
  refine n_then ?_
  refine c_seq ?_
  refine r_seq (by kernel_rfl) ?_
  refine s_val (v_move (v := .int .i64 _) rfl) ?_
  refine s_nil ?_
  refine c_block ?_
  refine c_loop (σ := KF) (fun (s : KF) f => ∃ g, (s.k ≤ 4 ∧ More (At w) s.F) ∧ f = (upd (upd (upd (upd (upd (upd g 1 (.pointer (some ⟨b1, 0, none⟩))) 2 (.pointer (some ⟨b2, 0, none⟩))) 3 (.pointer (some ⟨b3, 0, none⟩))) 4 (.pointer (some ⟨b4, 0, none⟩))) 5 (.pointer (some ⟨b5, 0, none⟩))) 15 (I s.k))) (fun (s : KF) => Has w s.F [(b5, .cells (rowA (sizeTo ps s.k)) 25), (b4, .cells (rowA (fun _ => 0)) 25), (b3, .cells (rowA (fun _ => 0)) 25), (b2, .cells (rowA (fun _ => 0)) 25), (b1, .cells h.cells 29)]) (fun (s : KF) => 4 - s.k) ⟨0, At w⟩ ⟨_, ⟨Nat.zero_le _, fun _ _ h => h⟩, live6 rfl rfl rfl rfl rfl rfl⟩ (fun w hw => by rw [show rowA (sizeTo ps 0) = rowA (fun _ => 0) from rowA_congr fun b hb => by unfold sizeTo; rw [if_neg (by omega)]]; exact hw) ?_
  rintro s _ ⟨g, ⟨hkl, hmo⟩, rfl⟩
  refine r_seq (by kernel_rfl) ?_
  refine s_val (v_lss (k := .i64) rfl rfl) ?_
  refine s_nil ?_
  refine c_seq ?_
  refine c_cond rfl rfl (fun h16 => ?_) (fun h16 => ?_)
  · have hk4 : s.k < 4 := by have := of_decide_eq_true h16; omega
    have hki : 0 ≤ (s.k : Int) ∧ (s.k : Int) < 4 := ⟨by omega, by omega⟩
    refine c_skip ?_
    refine n_then ?_
    refine c_seq ?_
    refine c_block ?_
    refine r_seq (by kernel_rfl) ?_
    refine s_val (v_move (v := .int .i64 _) rfl) ?_
    refine s_val (v_assign (v := .int .i64 _) rfl) ?_
    refine s_nil ?_
    refine r_list (by kernel_rfl) ?_
    refine s_val (v_move (v := .int .i64 _) rfl) ?_
    refine s_val (v_loadA (m := 42) (by kernel_rfl) rfl (.there (.there (.there (.there .here)))) (H.size _)) ?_
    refine s_val (v_move (v := .int .i64 _) rfl) ?_
    refine s_callF (by kernel_rfl) (fun w hw => gr_QueueOf h ps s.k w ((hp.mono hmo).at hw) hb hlc) (fun F21 v21 E21 hF21 hK21 hR21 => ?_)
    obtain ⟨a21, c21, rfl, ia21⟩ := (ints_of_list hR21 hK21).at
    refine s_val (v_lenS (T := 43) (m := 1) (by kernel_rfl) rfl rfl) ?_
    refine s_val (v_idxA (len := 4) (size := 1) (k := .i64) (by kernel_rfl) rfl rfl (by assumption)) ?_
    refine s_store1 (v := .int .i64 _) (by kernel_rfl) rfl rfl .here (rowA_set _ (by assumption)) rfl ?_
    refine s_end ?_
    refine n_bnormal ?_
    refine n_then ?_
    refine r_list (by kernel_rfl) ?_
    refine s_val (v_add rfl rfl (by omega)) ?_
    refine s_val (v_move (v := .int .i64 _) rfl) ?_
    refine s_end ?_
    refine n_round (s := s) ⟨s.k + 1, F21⟩ ⟨_, ⟨by dsimp only; omega, fun a v h => hF21 a v (hmo a v h)⟩, live6 rfl rfl rfl rfl rfl rfl⟩ (fun _ hw => by rw [← size_step ps hk4]; exact hw) (by dsimp only; omega)
  have hk4 : s.k = 4 := by have := of_decide_eq_false h16; omega
  have hgc : goodB h.core ps = true := (isHouse_eq hp.1).symm.trans h13
  have hl24 := (good_pays hgc).2.2
  have hmo0 := hmo
  refine c_exit ?_
  refine n_exit ?_
  refine n_exit ?_
  refine n_bhere ?_
  refine n_then ?_
  refine c_block ?_
  refine c_loop (σ := MG) (fun (s : MG) f => ∃ g, (Odo h.core ps s.n s.best ∧ More (At w) s.F) ∧ f = (upd (upd (upd (upd (upd g 1 (.pointer (some ⟨b1, 0, none⟩))) 2 (.pointer (some ⟨b2, 0, none⟩))) 3 (.pointer (some ⟨b3, 0, none⟩))) 4 (.pointer (some ⟨b4, 0, none⟩))) 5 (.pointer (some ⟨b5, 0, none⟩)))) (fun (s : MG) => Has w s.F [(b5, .cells (rowA (qLen ps)) 25), (b4, .cells (rowA (s.n)) 25), (b3, .cells (rowA (s.best)) 25), (b2, .cells (rowA (fun _ => 0)) 25), (b1, .cells h.cells 29)]) (fun (s : MG) => rank s.n) ⟨s.F, fun _ => 0, fun _ => 0⟩ ⟨_, ⟨odo_start hgc (fun _ _ => rfl) (fun _ _ => rfl), hmo0⟩, live5 rfl rfl rfl rfl rfl⟩ (fun w hw => by rw [hk4, size_all] at hw; exact hw) ?_
  rintro s _ ⟨g, ⟨ho, hmo⟩, rfl⟩
  refine c_block ?_
  refine r_seq (by kernel_rfl) ?_
  refine s_val (v_assign (v := .bool _) rfl) ?_
  refine s_nil ?_
  refine c_seq ?_
  refine r_seq (by kernel_rfl) ?_
  refine s_val (v_move (v := .int .i64 _) rfl) ?_
  refine s_nil ?_
  refine c_block ?_
  refine c_loop (σ := Nat) (fun (m : Nat) f => ∃ g, (m ≤ 4) ∧ f = (upd (upd (upd (upd (upd (upd (upd g 1 (.pointer (some ⟨b1, 0, none⟩))) 2 (.pointer (some ⟨b2, 0, none⟩))) 3 (.pointer (some ⟨b3, 0, none⟩))) 4 (.pointer (some ⟨b4, 0, none⟩))) 5 (.pointer (some ⟨b5, 0, none⟩))) 7 (.bool (moreTo s.best s.n m))) 25 (I m))) (fun (m : Nat) => Has w s.F [(b5, .cells (rowA (qLen ps)) 25), (b4, .cells (rowA (s.n)) 25), (b3, .cells (rowA (s.best)) 25), (b2, .cells (rowA (fun _ => 0)) 25), (b1, .cells h.cells 29)]) (fun (m : Nat) => 4 - m) 0 ⟨_, Nat.zero_le _, live7 rfl rfl rfl rfl rfl rfl rfl⟩ (fun w hw => hw) ?_
  rintro m _ ⟨g, hml, rfl⟩
  refine r_seq (by kernel_rfl) ?_
  refine s_val (v_lss (k := .i64) rfl rfl) ?_
  refine s_nil ?_
  refine c_seq ?_
  refine c_cond rfl rfl (fun h26 => ?_) (fun h26 => ?_)
  · have hm0 := of_decide_eq_true h26
    have hmi : 0 ≤ (m : Int) ∧ (m : Int) < 4 := ⟨by omega, by omega⟩
    refine c_skip ?_
    refine n_then ?_
    refine c_seq ?_
    refine c_block ?_
    refine r_seq (by kernel_rfl) ?_
    refine s_val (v_move (v := .int .i64 _) rfl) ?_
    refine s_val (v_assign (v := .int .i64 _) rfl) ?_
    refine s_nil ?_
    refine d_list (by kernel_rfl) (by kernel_rfl) (fun w hw => hw.drew) (by kernel_rfl) ?_
    refine q_val (v_move (v := .bool _) rfl) ?_
    refine q_val (v_move (v := .bool _) rfl) ?_
    refine q_split (s := 29) rfl (fun h29 => ?_) (fun h29 => ?_)
    · refine q_pass rfl rfl h29 ?_
      refine q_pass rfl rfl h29 ?_
      refine q_pass rfl rfl h29 ?_
      refine q_pass rfl rfl h29 ?_
      refine q_pass rfl rfl h29 ?_
      refine q_pass rfl rfl h29 ?_
      refine q_pass rfl rfl h29 ?_
      refine q_val (v_pickT (v := .bool _) rfl h29 rfl) ?_
      refine q_val (v_assign (v := .bool _) rfl) ?_
      refine q_end ?_
      refine n_bnormal ?_
      refine n_then ?_
      refine r_list (by kernel_rfl) ?_
      refine s_val (v_add rfl rfl (by omega)) ?_
      refine s_val (v_move (v := .int .i64 _) rfl) ?_
      refine s_end ?_
      refine n_round (m + 1) ⟨_, (by omega), live7 rfl rfl rfl rfl rfl (congrArg Value.bool (by simp only [moreTo, *, Bool.true_and, Bool.false_and, Bool.and_true, Bool.and_false, Bool.not_true, Bool.not_false, Bool.true_or, Bool.or_true, Bool.false_or, Bool.or_false, cond_true, cond_false, if_true, if_false, Bool.false_eq_true, decide_true, decide_false])) rfl⟩ (fun _ hw => hw) (by omega)
    refine q_want rfl rfl h29 ?_
    refine q_val (v_move (v := .int .i64 _) rfl) ?_
    refine q_want rfl rfl h29 ?_
    refine q_val (v_idxA (len := 4) (size := 1) (k := .i64) (by kernel_rfl) rfl rfl (by assumption)) ?_
    refine q_want rfl rfl h29 ?_
    refine q_val (v_load1 (v := .int .i64 _) (by kernel_rfl) rfl (.there .here) (rowA_at0 _ (by assumption))) ?_
    refine q_want rfl rfl h29 ?_
    refine q_val (v_move (v := .int .i64 _) rfl) ?_
    refine q_want rfl rfl h29 ?_
    refine q_val (v_idxA (len := 4) (size := 1) (k := .i64) (by kernel_rfl) rfl rfl (by assumption)) ?_
    refine q_want rfl rfl h29 ?_
    refine q_val (v_load1 (v := .int .i64 _) (by kernel_rfl) rfl (.there (.there .here)) (rowA_at0 _ (by assumption))) ?_
    refine q_want rfl rfl h29 ?_
    refine q_val (v_gtr (k := .i64) rfl rfl) ?_
    refine q_val (v_pickF (v := .bool _) rfl h29 rfl) ?_
    refine q_val (v_assign (v := .bool _) rfl) ?_
    refine q_end ?_
    refine n_bnormal ?_
    refine n_then ?_
    refine r_list (by kernel_rfl) ?_
    refine s_val (v_add rfl rfl (by omega)) ?_
    refine s_val (v_move (v := .int .i64 _) rfl) ?_
    refine s_end ?_
    refine n_round (m + 1) ⟨_, (by omega), live7 rfl rfl rfl rfl rfl (congrArg Value.bool (by simp only [moreTo, *, Bool.true_and, Bool.false_and, Bool.and_true, Bool.and_false, Bool.not_true, Bool.not_false, Bool.true_or, Bool.or_true, Bool.false_or, Bool.or_false, cond_true, cond_false, if_true, if_false, Bool.false_eq_true, decide_true, decide_false])) rfl⟩ (fun _ hw => hw) (by omega)
  have hm4 : m = 4 := by have := of_decide_eq_false h26; omega
  subst hm4
  refine c_exit ?_
  refine n_exit ?_
  refine n_exit ?_
  refine n_bhere ?_
  refine n_then ?_
  refine c_seq ?_
  refine r_seq (by kernel_rfl) ?_
  refine s_val (v_move (v := .bool _) rfl) ?_
  refine s_val (v_move (v := .bool _) rfl) ?_
  refine s_splitR (s := 40) rfl (fun h40 => ?_) (fun h40 => ?_)
  · refine s_pass rfl rfl h40 ?_
    refine s_pass rfl rfl h40 ?_
    refine s_pass rfl rfl h40 ?_
    refine s_val (v_pickF (v := .bool _) rfl h40 rfl) ?_
    refine s_nil ?_
    refine c_condFh rfl rfl rfl ?_
    refine c_skip ?_
    refine n_then ?_
    refine r_seq (by kernel_rfl) ?_
    refine s_val (v_assign (v := .int .i64 _) rfl) ?_
    refine s_nil ?_
    refine c_seq ?_
    refine c_block ?_
    refine c_rounds 5 ?_
    refine r_succ ?_
    refine c_seq ?_
    refine d_seq (by kernel_rfl) (by kernel_rfl) (fun w hw => hw.drew) (by kernel_rfl) ?_
    refine q_val (v_move (v := .int .i64 _) rfl) ?_
    refine q_val (v_lss (k := .i64) rfl rfl) ?_
    refine q_val (v_move (v := .bool _) rfl) ?_
    refine q_want rfl rfl rfl ?_
    refine q_val (v_move (v := .int .i64 _) rfl) ?_
    refine q_want rfl rfl rfl ?_
    refine q_val (v_idxA (len := 4) (size := 1) (k := .i64) (by kernel_rfl) rfl rfl (by decide)) ?_
    refine q_want rfl rfl rfl ?_
    refine q_val (v_load1 (v := .int .i64 _) (by kernel_rfl) rfl (.there .here) (rowA_at0 _ (by decide))) ?_
    refine q_want rfl rfl rfl ?_
    refine q_val (v_move (v := .int .i64 _) rfl) ?_
    refine q_want rfl rfl rfl ?_
    refine q_val (v_idxA (len := 4) (size := 1) (k := .i64) (by kernel_rfl) rfl rfl (by decide)) ?_
    refine q_want rfl rfl rfl ?_
    refine q_val (v_load1 (v := .int .i64 _) (by kernel_rfl) rfl .here (rowA_at0 _ (by decide))) ?_
    refine q_want rfl rfl rfl ?_
    refine q_val (v_eql (k := .i64) rfl rfl) ?_
    refine q_val (v_pickT (v := .bool _) rfl rfl rfl) ?_
    refine q_nil ?_
    refine c_condR rfl rfl (fun h68 => ?_) (fun h68 => ?_)
    · have q0 := of_decide_eq_false h68
      try simp [up1] at q0
      refine c_exit ?_
      refine n_exit ?_
      refine n_exit ?_
      refine n_bhere ?_
      refine n_then ?_
      refine c_seq ?_
      refine r_seq (by kernel_rfl) ?_
      refine s_val (v_move (v := .int .i64 _) rfl) ?_
      refine s_val (v_eql (k := .i64) rfl rfl) ?_
      refine s_nil ?_
      refine c_condFh rfl rfl rfl ?_
      refine c_skip ?_
      refine n_then ?_
      have hseen : Seen h.core ps s.n s.best := ho.less (more_none h40)
      have hsz0 := ho.size 0 (by omega)
      have hq24 : qLen ps 0 ≤ 24 := by have := queueM_len ps 0; unfold qLen; omega
      have hnn : s.n 0 = s.n 0 := by simp [up1]
      have hnext := hseen.next (n2 := (up1 s.n 0 ((s.n) 0 + 1))) ho.size 0 (by omega) (fun b h0 h1 => by
        have hb4 : b = 0 ∨ b = 1 ∨ b = 2 ∨ b = 3 := by omega
        rcases hb4 with rfl | rfl | rfl | rfl <;> first | (exfalso; omega) | exact ⟨by assumption, by simp [up1]⟩) ⟨by assumption, by simp [up1]⟩ (fun b h0 h1 => by
        have hb4 : b = 0 ∨ b = 1 ∨ b = 2 ∨ b = 3 := by omega
        rcases hb4 with rfl | rfl | rfl | rfl <;> first | (exfalso; omega) | simp [up1])
      refine r_list (by kernel_rfl) ?_
      refine s_val (v_move (v := .int .i64 _) rfl) ?_
      refine s_val (v_idxA (len := 4) (size := 1) (k := .i64) (by kernel_rfl) rfl rfl (by decide)) ?_
      refine s_val (v_load1 (v := .int .i64 _) (by kernel_rfl) rfl (.there .here) (rowA_at0 _ (by decide))) ?_
      refine s_val (v_add rfl rfl (by omega)) ?_
      refine s_val (v_idxA (len := 4) (size := 1) (k := .i64) (by kernel_rfl) rfl rfl (by decide)) ?_
      refine s_store1 (v := .int .i64 _) (by kernel_rfl) rfl rfl (.there .here) (rowA_set _ (by decide)) rfl ?_
      refine s_end ?_
      refine n_bnormal ?_
      refine n_round (s := s) ⟨s.F, (up1 s.n 0 ((s.n) 0 + 1)), s.best⟩ ⟨_, ⟨hnext.1, hmo⟩, live5 rfl rfl rfl rfl rfl⟩ (fun _ hw => hw) (rank_less hl24 ho.size hnext.2)
    have q0 := of_decide_eq_true h68
    try simp [up1] at q0
    refine c_skip ?_
    refine n_then ?_
    refine c_block ?_
    refine r_seq (by kernel_rfl) ?_
    refine s_val (v_move (v := .int .i64 _) rfl) ?_
    refine s_val (v_idxA (len := 4) (size := 1) (k := .i64) (by kernel_rfl) rfl rfl (by decide)) ?_
    refine s_store1 (v := .int .i64 _) (by kernel_rfl) rfl rfl (.there .here) (rowA_set _ (by decide)) rfl ?_
    refine s_nil ?_
    refine r_list (by kernel_rfl) ?_
    refine s_val (v_move (v := .int .i64 _) rfl) ?_
    refine s_val (v_addL (c := 1) rfl rfl (by decide) (by decide)) ?_
    refine s_val (v_assign (v := .int .i64 _) rfl) ?_
    refine s_end ?_
    refine n_bnormal ?_
    refine n_thenR ?_
    refine r_succ ?_
    refine c_seq ?_
    refine d_seq (by kernel_rfl) (by kernel_rfl) (fun w hw => hw.drew) (by kernel_rfl) ?_
    refine q_val (v_move (v := .int .i64 _) rfl) ?_
    refine q_val (v_lss (k := .i64) rfl rfl) ?_
    refine q_val (v_move (v := .bool _) rfl) ?_
    refine q_want rfl rfl rfl ?_
    refine q_val (v_move (v := .int .i64 _) rfl) ?_
    refine q_want rfl rfl rfl ?_
    refine q_val (v_idxA (len := 4) (size := 1) (k := .i64) (by kernel_rfl) rfl rfl (by decide)) ?_
    refine q_want rfl rfl rfl ?_
    refine q_val (v_load1 (v := .int .i64 _) (by kernel_rfl) rfl (.there .here) (rowA_at0 _ (by decide))) ?_
    refine q_want rfl rfl rfl ?_
    refine q_val (v_move (v := .int .i64 _) rfl) ?_
    refine q_want rfl rfl rfl ?_
    refine q_val (v_idxA (len := 4) (size := 1) (k := .i64) (by kernel_rfl) rfl rfl (by decide)) ?_
    refine q_want rfl rfl rfl ?_
    refine q_val (v_load1 (v := .int .i64 _) (by kernel_rfl) rfl .here (rowA_at0 _ (by decide))) ?_
    refine q_want rfl rfl rfl ?_
    refine q_val (v_eql (k := .i64) rfl rfl) ?_
    refine q_val (v_pickT (v := .bool _) rfl rfl rfl) ?_
    refine q_nil ?_
    refine c_condR rfl rfl (fun h68 => ?_) (fun h68 => ?_)
    · have q1 := of_decide_eq_false h68
      try simp [up1] at q1
      refine c_exit ?_
      refine n_exit ?_
      refine n_exit ?_
      refine n_bhere ?_
      refine n_then ?_
      refine c_seq ?_
      refine r_seq (by kernel_rfl) ?_
      refine s_val (v_move (v := .int .i64 _) rfl) ?_
      refine s_val (v_eql (k := .i64) rfl rfl) ?_
      refine s_nil ?_
      refine c_condFh rfl rfl rfl ?_
      refine c_skip ?_
      refine n_then ?_
      have hseen : Seen h.core ps s.n s.best := ho.less (more_none h40)
      have hsz1 := ho.size 1 (by omega)
      have hq24 : qLen ps 1 ≤ 24 := by have := queueM_len ps 1; unfold qLen; omega
      have hnn : (up1 s.n 0 0) 1 = s.n 1 := by simp [up1]
      have hnext := hseen.next (n2 := (up1 (up1 s.n 0 0) 1 (((up1 s.n 0 0)) 1 + 1))) ho.size 1 (by omega) (fun b h0 h1 => by
        have hb4 : b = 0 ∨ b = 1 ∨ b = 2 ∨ b = 3 := by omega
        rcases hb4 with rfl | rfl | rfl | rfl <;> first | (exfalso; omega) | exact ⟨by assumption, by simp [up1]⟩) ⟨by assumption, by simp [up1]⟩ (fun b h0 h1 => by
        have hb4 : b = 0 ∨ b = 1 ∨ b = 2 ∨ b = 3 := by omega
        rcases hb4 with rfl | rfl | rfl | rfl <;> first | (exfalso; omega) | simp [up1])
      refine r_list (by kernel_rfl) ?_
      refine s_val (v_move (v := .int .i64 _) rfl) ?_
      refine s_val (v_idxA (len := 4) (size := 1) (k := .i64) (by kernel_rfl) rfl rfl (by decide)) ?_
      refine s_val (v_load1 (v := .int .i64 _) (by kernel_rfl) rfl (.there .here) (rowA_at0 _ (by decide))) ?_
      refine s_val (v_add rfl rfl (by omega)) ?_
      refine s_val (v_idxA (len := 4) (size := 1) (k := .i64) (by kernel_rfl) rfl rfl (by decide)) ?_
      refine s_store1 (v := .int .i64 _) (by kernel_rfl) rfl rfl (.there .here) (rowA_set _ (by decide)) rfl ?_
      refine s_end ?_
      refine n_bnormal ?_
      refine n_round (s := s) ⟨s.F, (up1 (up1 s.n 0 0) 1 (((up1 s.n 0 0)) 1 + 1)), s.best⟩ ⟨_, ⟨hnext.1, hmo⟩, live5 rfl rfl rfl rfl rfl⟩ (fun _ hw => hw) (rank_less hl24 ho.size hnext.2)
    have q1 := of_decide_eq_true h68
    try simp [up1] at q1
    refine c_skip ?_
    refine n_then ?_
    refine c_block ?_
    refine r_seq (by kernel_rfl) ?_
    refine s_val (v_move (v := .int .i64 _) rfl) ?_
    refine s_val (v_idxA (len := 4) (size := 1) (k := .i64) (by kernel_rfl) rfl rfl (by decide)) ?_
    refine s_store1 (v := .int .i64 _) (by kernel_rfl) rfl rfl (.there .here) (rowA_set _ (by decide)) rfl ?_
    refine s_nil ?_
    refine r_list (by kernel_rfl) ?_
    refine s_val (v_move (v := .int .i64 _) rfl) ?_
    refine s_val (v_addL (c := 2) rfl rfl (by decide) (by decide)) ?_
    refine s_val (v_assign (v := .int .i64 _) rfl) ?_
    refine s_end ?_
    refine n_bnormal ?_
    refine n_thenR ?_
    refine r_succ ?_
    refine c_seq ?_
    refine d_seq (by kernel_rfl) (by kernel_rfl) (fun w hw => hw.drew) (by kernel_rfl) ?_
    refine q_val (v_move (v := .int .i64 _) rfl) ?_
    refine q_val (v_lss (k := .i64) rfl rfl) ?_
    refine q_val (v_move (v := .bool _) rfl) ?_
    refine q_want rfl rfl rfl ?_
    refine q_val (v_move (v := .int .i64 _) rfl) ?_
    refine q_want rfl rfl rfl ?_
    refine q_val (v_idxA (len := 4) (size := 1) (k := .i64) (by kernel_rfl) rfl rfl (by decide)) ?_
    refine q_want rfl rfl rfl ?_
    refine q_val (v_load1 (v := .int .i64 _) (by kernel_rfl) rfl (.there .here) (rowA_at0 _ (by decide))) ?_
    refine q_want rfl rfl rfl ?_
    refine q_val (v_move (v := .int .i64 _) rfl) ?_
    refine q_want rfl rfl rfl ?_
    refine q_val (v_idxA (len := 4) (size := 1) (k := .i64) (by kernel_rfl) rfl rfl (by decide)) ?_
    refine q_want rfl rfl rfl ?_
    refine q_val (v_load1 (v := .int .i64 _) (by kernel_rfl) rfl .here (rowA_at0 _ (by decide))) ?_
    refine q_want rfl rfl rfl ?_
    refine q_val (v_eql (k := .i64) rfl rfl) ?_
    refine q_val (v_pickT (v := .bool _) rfl rfl rfl) ?_
    refine q_nil ?_
    refine c_condR rfl rfl (fun h68 => ?_) (fun h68 => ?_)
    · have q2 := of_decide_eq_false h68
      try simp [up1] at q2
      refine c_exit ?_
      refine n_exit ?_
      refine n_exit ?_
      refine n_bhere ?_
      refine n_then ?_
      refine c_seq ?_
      refine r_seq (by kernel_rfl) ?_
      refine s_val (v_move (v := .int .i64 _) rfl) ?_
      refine s_val (v_eql (k := .i64) rfl rfl) ?_
      refine s_nil ?_
      refine c_condFh rfl rfl rfl ?_
      refine c_skip ?_
      refine n_then ?_
      have hseen : Seen h.core ps s.n s.best := ho.less (more_none h40)
      have hsz2 := ho.size 2 (by omega)
      have hq24 : qLen ps 2 ≤ 24 := by have := queueM_len ps 2; unfold qLen; omega
      have hnn : (up1 (up1 s.n 0 0) 1 0) 2 = s.n 2 := by simp [up1]
      have hnext := hseen.next (n2 := (up1 (up1 (up1 s.n 0 0) 1 0) 2 (((up1 (up1 s.n 0 0) 1 0)) 2 + 1))) ho.size 2 (by omega) (fun b h0 h1 => by
        have hb4 : b = 0 ∨ b = 1 ∨ b = 2 ∨ b = 3 := by omega
        rcases hb4 with rfl | rfl | rfl | rfl <;> first | (exfalso; omega) | exact ⟨by assumption, by simp [up1]⟩) ⟨by assumption, by simp [up1]⟩ (fun b h0 h1 => by
        have hb4 : b = 0 ∨ b = 1 ∨ b = 2 ∨ b = 3 := by omega
        rcases hb4 with rfl | rfl | rfl | rfl <;> first | (exfalso; omega) | simp [up1])
      refine r_list (by kernel_rfl) ?_
      refine s_val (v_move (v := .int .i64 _) rfl) ?_
      refine s_val (v_idxA (len := 4) (size := 1) (k := .i64) (by kernel_rfl) rfl rfl (by decide)) ?_
      refine s_val (v_load1 (v := .int .i64 _) (by kernel_rfl) rfl (.there .here) (rowA_at0 _ (by decide))) ?_
      refine s_val (v_add rfl rfl (by omega)) ?_
      refine s_val (v_idxA (len := 4) (size := 1) (k := .i64) (by kernel_rfl) rfl rfl (by decide)) ?_
      refine s_store1 (v := .int .i64 _) (by kernel_rfl) rfl rfl (.there .here) (rowA_set _ (by decide)) rfl ?_
      refine s_end ?_
      refine n_bnormal ?_
      refine n_round (s := s) ⟨s.F, (up1 (up1 (up1 s.n 0 0) 1 0) 2 (((up1 (up1 s.n 0 0) 1 0)) 2 + 1)), s.best⟩ ⟨_, ⟨hnext.1, hmo⟩, live5 rfl rfl rfl rfl rfl⟩ (fun _ hw => hw) (rank_less hl24 ho.size hnext.2)
    have q2 := of_decide_eq_true h68
    try simp [up1] at q2
    refine c_skip ?_
    refine n_then ?_
    refine c_block ?_
    refine r_seq (by kernel_rfl) ?_
    refine s_val (v_move (v := .int .i64 _) rfl) ?_
    refine s_val (v_idxA (len := 4) (size := 1) (k := .i64) (by kernel_rfl) rfl rfl (by decide)) ?_
    refine s_store1 (v := .int .i64 _) (by kernel_rfl) rfl rfl (.there .here) (rowA_set _ (by decide)) rfl ?_
    refine s_nil ?_
    refine r_list (by kernel_rfl) ?_
    refine s_val (v_move (v := .int .i64 _) rfl) ?_
    refine s_val (v_addL (c := 3) rfl rfl (by decide) (by decide)) ?_
    refine s_val (v_assign (v := .int .i64 _) rfl) ?_
    refine s_end ?_
    refine n_bnormal ?_
    refine n_thenR ?_
    refine r_succ ?_
    refine c_seq ?_
    refine d_seq (by kernel_rfl) (by kernel_rfl) (fun w hw => hw.drew) (by kernel_rfl) ?_
    refine q_val (v_move (v := .int .i64 _) rfl) ?_
    refine q_val (v_lss (k := .i64) rfl rfl) ?_
    refine q_val (v_move (v := .bool _) rfl) ?_
    refine q_want rfl rfl rfl ?_
    refine q_val (v_move (v := .int .i64 _) rfl) ?_
    refine q_want rfl rfl rfl ?_
    refine q_val (v_idxA (len := 4) (size := 1) (k := .i64) (by kernel_rfl) rfl rfl (by decide)) ?_
    refine q_want rfl rfl rfl ?_
    refine q_val (v_load1 (v := .int .i64 _) (by kernel_rfl) rfl (.there .here) (rowA_at0 _ (by decide))) ?_
    refine q_want rfl rfl rfl ?_
    refine q_val (v_move (v := .int .i64 _) rfl) ?_
    refine q_want rfl rfl rfl ?_
    refine q_val (v_idxA (len := 4) (size := 1) (k := .i64) (by kernel_rfl) rfl rfl (by decide)) ?_
    refine q_want rfl rfl rfl ?_
    refine q_val (v_load1 (v := .int .i64 _) (by kernel_rfl) rfl .here (rowA_at0 _ (by decide))) ?_
    refine q_want rfl rfl rfl ?_
    refine q_val (v_eql (k := .i64) rfl rfl) ?_
    refine q_val (v_pickT (v := .bool _) rfl rfl rfl) ?_
    refine q_nil ?_
    refine c_condR rfl rfl (fun h68 => ?_) (fun h68 => ?_)
    · have q3 := of_decide_eq_false h68
      try simp [up1] at q3
      refine c_exit ?_
      refine n_exit ?_
      refine n_exit ?_
      refine n_bhere ?_
      refine n_then ?_
      refine c_seq ?_
      refine r_seq (by kernel_rfl) ?_
      refine s_val (v_move (v := .int .i64 _) rfl) ?_
      refine s_val (v_eql (k := .i64) rfl rfl) ?_
      refine s_nil ?_
      refine c_condFh rfl rfl rfl ?_
      refine c_skip ?_
      refine n_then ?_
      have hseen : Seen h.core ps s.n s.best := ho.less (more_none h40)
      have hsz3 := ho.size 3 (by omega)
      have hq24 : qLen ps 3 ≤ 24 := by have := queueM_len ps 3; unfold qLen; omega
      have hnn : (up1 (up1 (up1 s.n 0 0) 1 0) 2 0) 3 = s.n 3 := by simp [up1]
      have hnext := hseen.next (n2 := (up1 (up1 (up1 (up1 s.n 0 0) 1 0) 2 0) 3 (((up1 (up1 (up1 s.n 0 0) 1 0) 2 0)) 3 + 1))) ho.size 3 (by omega) (fun b h0 h1 => by
        have hb4 : b = 0 ∨ b = 1 ∨ b = 2 ∨ b = 3 := by omega
        rcases hb4 with rfl | rfl | rfl | rfl <;> first | (exfalso; omega) | exact ⟨by assumption, by simp [up1]⟩) ⟨by assumption, by simp [up1]⟩ (fun b h0 h1 => by
        have hb4 : b = 0 ∨ b = 1 ∨ b = 2 ∨ b = 3 := by omega
        rcases hb4 with rfl | rfl | rfl | rfl <;> first | (exfalso; omega) | simp [up1])
      refine r_list (by kernel_rfl) ?_
      refine s_val (v_move (v := .int .i64 _) rfl) ?_
      refine s_val (v_idxA (len := 4) (size := 1) (k := .i64) (by kernel_rfl) rfl rfl (by decide)) ?_
      refine s_val (v_load1 (v := .int .i64 _) (by kernel_rfl) rfl (.there .here) (rowA_at0 _ (by decide))) ?_
      refine s_val (v_add rfl rfl (by omega)) ?_
      refine s_val (v_idxA (len := 4) (size := 1) (k := .i64) (by kernel_rfl) rfl rfl (by decide)) ?_
      refine s_store1 (v := .int .i64 _) (by kernel_rfl) rfl rfl (.there .here) (rowA_set _ (by decide)) rfl ?_
      refine s_end ?_
      refine n_bnormal ?_
      refine n_round (s := s) ⟨s.F, (up1 (up1 (up1 (up1 s.n 0 0) 1 0) 2 0) 3 (((up1 (up1 (up1 s.n 0 0) 1 0) 2 0)) 3 + 1)), s.best⟩ ⟨_, ⟨hnext.1, hmo⟩, live5 rfl rfl rfl rfl rfl⟩ (fun _ hw => hw) (rank_less hl24 ho.size hnext.2)
    have q3 := of_decide_eq_true h68
    try simp [up1] at q3
    refine c_skip ?_
    refine n_then ?_
    refine c_block ?_
    refine r_seq (by kernel_rfl) ?_
    refine s_val (v_move (v := .int .i64 _) rfl) ?_
    refine s_val (v_idxA (len := 4) (size := 1) (k := .i64) (by kernel_rfl) rfl rfl (by decide)) ?_
    refine s_store1 (v := .int .i64 _) (by kernel_rfl) rfl rfl (.there .here) (rowA_set _ (by decide)) rfl ?_
    refine s_nil ?_
    refine r_list (by kernel_rfl) ?_
    refine s_val (v_move (v := .int .i64 _) rfl) ?_
    refine s_val (v_addL (c := 4) rfl rfl (by decide) (by decide)) ?_
    refine s_val (v_assign (v := .int .i64 _) rfl) ?_
    refine s_end ?_
    refine n_bnormal ?_
    refine n_thenR ?_
    refine r_succ ?_
    refine c_seq ?_
    refine d_seq (by kernel_rfl) (by kernel_rfl) (fun w hw => hw.drew) (by kernel_rfl) ?_
    refine q_val (v_move (v := .int .i64 _) rfl) ?_
    refine q_val (v_lss (k := .i64) rfl rfl) ?_
    refine q_val (v_move (v := .bool _) rfl) ?_
    refine q_pass (g := false) rfl rfl rfl ?_
    refine q_pass (g := false) rfl rfl rfl ?_
    refine q_pass (g := false) rfl rfl rfl ?_
    refine q_pass (g := false) rfl rfl rfl ?_
    refine q_pass (g := false) rfl rfl rfl ?_
    refine q_pass (g := false) rfl rfl rfl ?_
    refine q_pass (g := false) rfl rfl rfl ?_
    refine q_val (v_pickF (v := .bool _) rfl rfl rfl) ?_
    refine q_nil ?_
    refine c_condFh rfl rfl rfl ?_
    refine c_exit ?_
    refine n_exit ?_
    refine n_exit ?_
    refine n_bhere ?_
    refine n_then ?_
    refine c_seq ?_
    refine r_seq (by kernel_rfl) ?_
    refine s_val (v_move (v := .int .i64 _) rfl) ?_
    refine s_val (v_eql (k := .i64) rfl rfl) ?_
    refine s_nil ?_
    refine c_condTh rfl rfl rfl ?_
    refine r_seq (by kernel_rfl) ?_
    refine s_val (v_loadA (m := 4) (by kernel_rfl) rfl (.there (.there .here)) (rowA_size _)) ?_
    refine s_storeA (m := 4) (by kernel_rfl) rfl rfl (.there (.there (.there .here))) (rowA_size _) (rowA_size _) (rowA_all _) ?_
    refine s_nil ?_
    refine c_ret ?_
    refine n_ret ?_
    refine n_bret ?_
    refine n_ret ?_
    refine n_bret ?_
    have hseen : Seen h.core ps s.n s.best := ho.less (more_none h40)
    refine n_doneC (m := 4) rfl (by decide) rfl (by kernel_rfl) (.there (.there (.there .here))) (rowA_size _) (congrArg Value.agg ?_)
    exact (mostM_row (hseen.most (fun b hb => by
          have hb4 : b = 0 ∨ b = 1 ∨ b = 2 ∨ b = 3 := by omega
          rcases hb4 with rfl | rfl | rfl | rfl <;> assumption))).symm
  refine s_want rfl rfl h40 ?_
  refine s_val (v_loadA (m := 42) (by kernel_rfl) rfl (.there (.there (.there (.there .here)))) (H.size _)) ?_
  refine s_want rfl rfl h40 ?_
  refine s_val (v_loadA (m := 4) (by kernel_rfl) rfl (.there .here) (rowA_size _)) ?_
  refine s_want rfl rfl h40 ?_
  refine s_call (by kernel_rfl) (fun w hw => gr_AllTogether h ps s.n w ((hp.mono hmo).at hw) hb hlc) ?_
  refine s_val (v_pickT (v := .bool _) rfl h40 rfl) ?_
  refine s_nil ?_
  refine c_condR rfl rfl (fun h44 => ?_) (fun h44 => ?_)
  · refine c_skip ?_
    refine n_then ?_
    refine r_seq (by kernel_rfl) ?_
    refine s_val (v_assign (v := .int .i64 _) rfl) ?_
    refine s_nil ?_
    refine c_seq ?_
    refine c_block ?_
    refine c_rounds 5 ?_
    refine r_succ ?_
    refine c_seq ?_
    refine d_seq (by kernel_rfl) (by kernel_rfl) (fun w hw => hw.drew) (by kernel_rfl) ?_
    refine q_val (v_move (v := .int .i64 _) rfl) ?_
    refine q_val (v_lss (k := .i64) rfl rfl) ?_
    refine q_val (v_move (v := .bool _) rfl) ?_
    refine q_want rfl rfl rfl ?_
    refine q_val (v_move (v := .int .i64 _) rfl) ?_
    refine q_want rfl rfl rfl ?_
    refine q_val (v_idxA (len := 4) (size := 1) (k := .i64) (by kernel_rfl) rfl rfl (by decide)) ?_
    refine q_want rfl rfl rfl ?_
    refine q_val (v_load1 (v := .int .i64 _) (by kernel_rfl) rfl (.there .here) (rowA_at0 _ (by decide))) ?_
    refine q_want rfl rfl rfl ?_
    refine q_val (v_move (v := .int .i64 _) rfl) ?_
    refine q_want rfl rfl rfl ?_
    refine q_val (v_idxA (len := 4) (size := 1) (k := .i64) (by kernel_rfl) rfl rfl (by decide)) ?_
    refine q_want rfl rfl rfl ?_
    refine q_val (v_load1 (v := .int .i64 _) (by kernel_rfl) rfl .here (rowA_at0 _ (by decide))) ?_
    refine q_want rfl rfl rfl ?_
    refine q_val (v_eql (k := .i64) rfl rfl) ?_
    refine q_val (v_pickT (v := .bool _) rfl rfl rfl) ?_
    refine q_nil ?_
    refine c_condR rfl rfl (fun h68 => ?_) (fun h68 => ?_)
    · have q0 := of_decide_eq_false h68
      try simp [up1] at q0
      refine c_exit ?_
      refine n_exit ?_
      refine n_exit ?_
      refine n_bhere ?_
      refine n_then ?_
      refine c_seq ?_
      refine r_seq (by kernel_rfl) ?_
      refine s_val (v_move (v := .int .i64 _) rfl) ?_
      refine s_val (v_eql (k := .i64) rfl rfl) ?_
      refine s_nil ?_
      refine c_condFh rfl rfl rfl ?_
      refine c_skip ?_
      refine n_then ?_
      have hseen : Seen h.core ps s.n s.best := (ho.no ((together_core h ps s.n).trans h44))
      have hsz0 := ho.size 0 (by omega)
      have hq24 : qLen ps 0 ≤ 24 := by have := queueM_len ps 0; unfold qLen; omega
      have hnn : s.n 0 = s.n 0 := by simp [up1]
      have hnext := hseen.next (n2 := (up1 s.n 0 ((s.n) 0 + 1))) ho.size 0 (by omega) (fun b h0 h1 => by
        have hb4 : b = 0 ∨ b = 1 ∨ b = 2 ∨ b = 3 := by omega
        rcases hb4 with rfl | rfl | rfl | rfl <;> first | (exfalso; omega) | exact ⟨by assumption, by simp [up1]⟩) ⟨by assumption, by simp [up1]⟩ (fun b h0 h1 => by
        have hb4 : b = 0 ∨ b = 1 ∨ b = 2 ∨ b = 3 := by omega
        rcases hb4 with rfl | rfl | rfl | rfl <;> first | (exfalso; omega) | simp [up1])
      refine r_list (by kernel_rfl) ?_
      refine s_val (v_move (v := .int .i64 _) rfl) ?_
      refine s_val (v_idxA (len := 4) (size := 1) (k := .i64) (by kernel_rfl) rfl rfl (by decide)) ?_
      refine s_val (v_load1 (v := .int .i64 _) (by kernel_rfl) rfl (.there .here) (rowA_at0 _ (by decide))) ?_
      refine s_val (v_add rfl rfl (by omega)) ?_
      refine s_val (v_idxA (len := 4) (size := 1) (k := .i64) (by kernel_rfl) rfl rfl (by decide)) ?_
      refine s_store1 (v := .int .i64 _) (by kernel_rfl) rfl rfl (.there .here) (rowA_set _ (by decide)) rfl ?_
      refine s_end ?_
      refine n_bnormal ?_
      refine n_round (s := s) ⟨s.F, (up1 s.n 0 ((s.n) 0 + 1)), s.best⟩ ⟨_, ⟨hnext.1, hmo⟩, live5 rfl rfl rfl rfl rfl⟩ (fun _ hw => hw) (rank_less hl24 ho.size hnext.2)
    have q0 := of_decide_eq_true h68
    try simp [up1] at q0
    refine c_skip ?_
    refine n_then ?_
    refine c_block ?_
    refine r_seq (by kernel_rfl) ?_
    refine s_val (v_move (v := .int .i64 _) rfl) ?_
    refine s_val (v_idxA (len := 4) (size := 1) (k := .i64) (by kernel_rfl) rfl rfl (by decide)) ?_
    refine s_store1 (v := .int .i64 _) (by kernel_rfl) rfl rfl (.there .here) (rowA_set _ (by decide)) rfl ?_
    refine s_nil ?_
    refine r_list (by kernel_rfl) ?_
    refine s_val (v_move (v := .int .i64 _) rfl) ?_
    refine s_val (v_addL (c := 1) rfl rfl (by decide) (by decide)) ?_
    refine s_val (v_assign (v := .int .i64 _) rfl) ?_
    refine s_end ?_
    refine n_bnormal ?_
    refine n_thenR ?_
    refine r_succ ?_
    refine c_seq ?_
    refine d_seq (by kernel_rfl) (by kernel_rfl) (fun w hw => hw.drew) (by kernel_rfl) ?_
    refine q_val (v_move (v := .int .i64 _) rfl) ?_
    refine q_val (v_lss (k := .i64) rfl rfl) ?_
    refine q_val (v_move (v := .bool _) rfl) ?_
    refine q_want rfl rfl rfl ?_
    refine q_val (v_move (v := .int .i64 _) rfl) ?_
    refine q_want rfl rfl rfl ?_
    refine q_val (v_idxA (len := 4) (size := 1) (k := .i64) (by kernel_rfl) rfl rfl (by decide)) ?_
    refine q_want rfl rfl rfl ?_
    refine q_val (v_load1 (v := .int .i64 _) (by kernel_rfl) rfl (.there .here) (rowA_at0 _ (by decide))) ?_
    refine q_want rfl rfl rfl ?_
    refine q_val (v_move (v := .int .i64 _) rfl) ?_
    refine q_want rfl rfl rfl ?_
    refine q_val (v_idxA (len := 4) (size := 1) (k := .i64) (by kernel_rfl) rfl rfl (by decide)) ?_
    refine q_want rfl rfl rfl ?_
    refine q_val (v_load1 (v := .int .i64 _) (by kernel_rfl) rfl .here (rowA_at0 _ (by decide))) ?_
    refine q_want rfl rfl rfl ?_
    refine q_val (v_eql (k := .i64) rfl rfl) ?_
    refine q_val (v_pickT (v := .bool _) rfl rfl rfl) ?_
    refine q_nil ?_
    refine c_condR rfl rfl (fun h68 => ?_) (fun h68 => ?_)
    · have q1 := of_decide_eq_false h68
      try simp [up1] at q1
      refine c_exit ?_
      refine n_exit ?_
      refine n_exit ?_
      refine n_bhere ?_
      refine n_then ?_
      refine c_seq ?_
      refine r_seq (by kernel_rfl) ?_
      refine s_val (v_move (v := .int .i64 _) rfl) ?_
      refine s_val (v_eql (k := .i64) rfl rfl) ?_
      refine s_nil ?_
      refine c_condFh rfl rfl rfl ?_
      refine c_skip ?_
      refine n_then ?_
      have hseen : Seen h.core ps s.n s.best := (ho.no ((together_core h ps s.n).trans h44))
      have hsz1 := ho.size 1 (by omega)
      have hq24 : qLen ps 1 ≤ 24 := by have := queueM_len ps 1; unfold qLen; omega
      have hnn : (up1 s.n 0 0) 1 = s.n 1 := by simp [up1]
      have hnext := hseen.next (n2 := (up1 (up1 s.n 0 0) 1 (((up1 s.n 0 0)) 1 + 1))) ho.size 1 (by omega) (fun b h0 h1 => by
        have hb4 : b = 0 ∨ b = 1 ∨ b = 2 ∨ b = 3 := by omega
        rcases hb4 with rfl | rfl | rfl | rfl <;> first | (exfalso; omega) | exact ⟨by assumption, by simp [up1]⟩) ⟨by assumption, by simp [up1]⟩ (fun b h0 h1 => by
        have hb4 : b = 0 ∨ b = 1 ∨ b = 2 ∨ b = 3 := by omega
        rcases hb4 with rfl | rfl | rfl | rfl <;> first | (exfalso; omega) | simp [up1])
      refine r_list (by kernel_rfl) ?_
      refine s_val (v_move (v := .int .i64 _) rfl) ?_
      refine s_val (v_idxA (len := 4) (size := 1) (k := .i64) (by kernel_rfl) rfl rfl (by decide)) ?_
      refine s_val (v_load1 (v := .int .i64 _) (by kernel_rfl) rfl (.there .here) (rowA_at0 _ (by decide))) ?_
      refine s_val (v_add rfl rfl (by omega)) ?_
      refine s_val (v_idxA (len := 4) (size := 1) (k := .i64) (by kernel_rfl) rfl rfl (by decide)) ?_
      refine s_store1 (v := .int .i64 _) (by kernel_rfl) rfl rfl (.there .here) (rowA_set _ (by decide)) rfl ?_
      refine s_end ?_
      refine n_bnormal ?_
      refine n_round (s := s) ⟨s.F, (up1 (up1 s.n 0 0) 1 (((up1 s.n 0 0)) 1 + 1)), s.best⟩ ⟨_, ⟨hnext.1, hmo⟩, live5 rfl rfl rfl rfl rfl⟩ (fun _ hw => hw) (rank_less hl24 ho.size hnext.2)
    have q1 := of_decide_eq_true h68
    try simp [up1] at q1
    refine c_skip ?_
    refine n_then ?_
    refine c_block ?_
    refine r_seq (by kernel_rfl) ?_
    refine s_val (v_move (v := .int .i64 _) rfl) ?_
    refine s_val (v_idxA (len := 4) (size := 1) (k := .i64) (by kernel_rfl) rfl rfl (by decide)) ?_
    refine s_store1 (v := .int .i64 _) (by kernel_rfl) rfl rfl (.there .here) (rowA_set _ (by decide)) rfl ?_
    refine s_nil ?_
    refine r_list (by kernel_rfl) ?_
    refine s_val (v_move (v := .int .i64 _) rfl) ?_
    refine s_val (v_addL (c := 2) rfl rfl (by decide) (by decide)) ?_
    refine s_val (v_assign (v := .int .i64 _) rfl) ?_
    refine s_end ?_
    refine n_bnormal ?_
    refine n_thenR ?_
    refine r_succ ?_
    refine c_seq ?_
    refine d_seq (by kernel_rfl) (by kernel_rfl) (fun w hw => hw.drew) (by kernel_rfl) ?_
    refine q_val (v_move (v := .int .i64 _) rfl) ?_
    refine q_val (v_lss (k := .i64) rfl rfl) ?_
    refine q_val (v_move (v := .bool _) rfl) ?_
    refine q_want rfl rfl rfl ?_
    refine q_val (v_move (v := .int .i64 _) rfl) ?_
    refine q_want rfl rfl rfl ?_
    refine q_val (v_idxA (len := 4) (size := 1) (k := .i64) (by kernel_rfl) rfl rfl (by decide)) ?_
    refine q_want rfl rfl rfl ?_
    refine q_val (v_load1 (v := .int .i64 _) (by kernel_rfl) rfl (.there .here) (rowA_at0 _ (by decide))) ?_
    refine q_want rfl rfl rfl ?_
    refine q_val (v_move (v := .int .i64 _) rfl) ?_
    refine q_want rfl rfl rfl ?_
    refine q_val (v_idxA (len := 4) (size := 1) (k := .i64) (by kernel_rfl) rfl rfl (by decide)) ?_
    refine q_want rfl rfl rfl ?_
    refine q_val (v_load1 (v := .int .i64 _) (by kernel_rfl) rfl .here (rowA_at0 _ (by decide))) ?_
    refine q_want rfl rfl rfl ?_
    refine q_val (v_eql (k := .i64) rfl rfl) ?_
    refine q_val (v_pickT (v := .bool _) rfl rfl rfl) ?_
    refine q_nil ?_
    refine c_condR rfl rfl (fun h68 => ?_) (fun h68 => ?_)
    · have q2 := of_decide_eq_false h68
      try simp [up1] at q2
      refine c_exit ?_
      refine n_exit ?_
      refine n_exit ?_
      refine n_bhere ?_
      refine n_then ?_
      refine c_seq ?_
      refine r_seq (by kernel_rfl) ?_
      refine s_val (v_move (v := .int .i64 _) rfl) ?_
      refine s_val (v_eql (k := .i64) rfl rfl) ?_
      refine s_nil ?_
      refine c_condFh rfl rfl rfl ?_
      refine c_skip ?_
      refine n_then ?_
      have hseen : Seen h.core ps s.n s.best := (ho.no ((together_core h ps s.n).trans h44))
      have hsz2 := ho.size 2 (by omega)
      have hq24 : qLen ps 2 ≤ 24 := by have := queueM_len ps 2; unfold qLen; omega
      have hnn : (up1 (up1 s.n 0 0) 1 0) 2 = s.n 2 := by simp [up1]
      have hnext := hseen.next (n2 := (up1 (up1 (up1 s.n 0 0) 1 0) 2 (((up1 (up1 s.n 0 0) 1 0)) 2 + 1))) ho.size 2 (by omega) (fun b h0 h1 => by
        have hb4 : b = 0 ∨ b = 1 ∨ b = 2 ∨ b = 3 := by omega
        rcases hb4 with rfl | rfl | rfl | rfl <;> first | (exfalso; omega) | exact ⟨by assumption, by simp [up1]⟩) ⟨by assumption, by simp [up1]⟩ (fun b h0 h1 => by
        have hb4 : b = 0 ∨ b = 1 ∨ b = 2 ∨ b = 3 := by omega
        rcases hb4 with rfl | rfl | rfl | rfl <;> first | (exfalso; omega) | simp [up1])
      refine r_list (by kernel_rfl) ?_
      refine s_val (v_move (v := .int .i64 _) rfl) ?_
      refine s_val (v_idxA (len := 4) (size := 1) (k := .i64) (by kernel_rfl) rfl rfl (by decide)) ?_
      refine s_val (v_load1 (v := .int .i64 _) (by kernel_rfl) rfl (.there .here) (rowA_at0 _ (by decide))) ?_
      refine s_val (v_add rfl rfl (by omega)) ?_
      refine s_val (v_idxA (len := 4) (size := 1) (k := .i64) (by kernel_rfl) rfl rfl (by decide)) ?_
      refine s_store1 (v := .int .i64 _) (by kernel_rfl) rfl rfl (.there .here) (rowA_set _ (by decide)) rfl ?_
      refine s_end ?_
      refine n_bnormal ?_
      refine n_round (s := s) ⟨s.F, (up1 (up1 (up1 s.n 0 0) 1 0) 2 (((up1 (up1 s.n 0 0) 1 0)) 2 + 1)), s.best⟩ ⟨_, ⟨hnext.1, hmo⟩, live5 rfl rfl rfl rfl rfl⟩ (fun _ hw => hw) (rank_less hl24 ho.size hnext.2)
    have q2 := of_decide_eq_true h68
    try simp [up1] at q2
    refine c_skip ?_
    refine n_then ?_
    refine c_block ?_
    refine r_seq (by kernel_rfl) ?_
    refine s_val (v_move (v := .int .i64 _) rfl) ?_
    refine s_val (v_idxA (len := 4) (size := 1) (k := .i64) (by kernel_rfl) rfl rfl (by decide)) ?_
    refine s_store1 (v := .int .i64 _) (by kernel_rfl) rfl rfl (.there .here) (rowA_set _ (by decide)) rfl ?_
    refine s_nil ?_
    refine r_list (by kernel_rfl) ?_
    refine s_val (v_move (v := .int .i64 _) rfl) ?_
    refine s_val (v_addL (c := 3) rfl rfl (by decide) (by decide)) ?_
    refine s_val (v_assign (v := .int .i64 _) rfl) ?_
    refine s_end ?_
    refine n_bnormal ?_
    refine n_thenR ?_
    refine r_succ ?_
    refine c_seq ?_
    refine d_seq (by kernel_rfl) (by kernel_rfl) (fun w hw => hw.drew) (by kernel_rfl) ?_
    refine q_val (v_move (v := .int .i64 _) rfl) ?_
    refine q_val (v_lss (k := .i64) rfl rfl) ?_
    refine q_val (v_move (v := .bool _) rfl) ?_
    refine q_want rfl rfl rfl ?_
    refine q_val (v_move (v := .int .i64 _) rfl) ?_
    refine q_want rfl rfl rfl ?_
    refine q_val (v_idxA (len := 4) (size := 1) (k := .i64) (by kernel_rfl) rfl rfl (by decide)) ?_
    refine q_want rfl rfl rfl ?_
    refine q_val (v_load1 (v := .int .i64 _) (by kernel_rfl) rfl (.there .here) (rowA_at0 _ (by decide))) ?_
    refine q_want rfl rfl rfl ?_
    refine q_val (v_move (v := .int .i64 _) rfl) ?_
    refine q_want rfl rfl rfl ?_
    refine q_val (v_idxA (len := 4) (size := 1) (k := .i64) (by kernel_rfl) rfl rfl (by decide)) ?_
    refine q_want rfl rfl rfl ?_
    refine q_val (v_load1 (v := .int .i64 _) (by kernel_rfl) rfl .here (rowA_at0 _ (by decide))) ?_
    refine q_want rfl rfl rfl ?_
    refine q_val (v_eql (k := .i64) rfl rfl) ?_
    refine q_val (v_pickT (v := .bool _) rfl rfl rfl) ?_
    refine q_nil ?_
    refine c_condR rfl rfl (fun h68 => ?_) (fun h68 => ?_)
    · have q3 := of_decide_eq_false h68
      try simp [up1] at q3
      refine c_exit ?_
      refine n_exit ?_
      refine n_exit ?_
      refine n_bhere ?_
      refine n_then ?_
      refine c_seq ?_
      refine r_seq (by kernel_rfl) ?_
      refine s_val (v_move (v := .int .i64 _) rfl) ?_
      refine s_val (v_eql (k := .i64) rfl rfl) ?_
      refine s_nil ?_
      refine c_condFh rfl rfl rfl ?_
      refine c_skip ?_
      refine n_then ?_
      have hseen : Seen h.core ps s.n s.best := (ho.no ((together_core h ps s.n).trans h44))
      have hsz3 := ho.size 3 (by omega)
      have hq24 : qLen ps 3 ≤ 24 := by have := queueM_len ps 3; unfold qLen; omega
      have hnn : (up1 (up1 (up1 s.n 0 0) 1 0) 2 0) 3 = s.n 3 := by simp [up1]
      have hnext := hseen.next (n2 := (up1 (up1 (up1 (up1 s.n 0 0) 1 0) 2 0) 3 (((up1 (up1 (up1 s.n 0 0) 1 0) 2 0)) 3 + 1))) ho.size 3 (by omega) (fun b h0 h1 => by
        have hb4 : b = 0 ∨ b = 1 ∨ b = 2 ∨ b = 3 := by omega
        rcases hb4 with rfl | rfl | rfl | rfl <;> first | (exfalso; omega) | exact ⟨by assumption, by simp [up1]⟩) ⟨by assumption, by simp [up1]⟩ (fun b h0 h1 => by
        have hb4 : b = 0 ∨ b = 1 ∨ b = 2 ∨ b = 3 := by omega
        rcases hb4 with rfl | rfl | rfl | rfl <;> first | (exfalso; omega) | simp [up1])
      refine r_list (by kernel_rfl) ?_
      refine s_val (v_move (v := .int .i64 _) rfl) ?_
      refine s_val (v_idxA (len := 4) (size := 1) (k := .i64) (by kernel_rfl) rfl rfl (by decide)) ?_
      refine s_val (v_load1 (v := .int .i64 _) (by kernel_rfl) rfl (.there .here) (rowA_at0 _ (by decide))) ?_
      refine s_val (v_add rfl rfl (by omega)) ?_
      refine s_val (v_idxA (len := 4) (size := 1) (k := .i64) (by kernel_rfl) rfl rfl (by decide)) ?_
      refine s_store1 (v := .int .i64 _) (by kernel_rfl) rfl rfl (.there .here) (rowA_set _ (by decide)) rfl ?_
      refine s_end ?_
      refine n_bnormal ?_
      refine n_round (s := s) ⟨s.F, (up1 (up1 (up1 (up1 s.n 0 0) 1 0) 2 0) 3 (((up1 (up1 (up1 s.n 0 0) 1 0) 2 0)) 3 + 1)), s.best⟩ ⟨_, ⟨hnext.1, hmo⟩, live5 rfl rfl rfl rfl rfl⟩ (fun _ hw => hw) (rank_less hl24 ho.size hnext.2)
    have q3 := of_decide_eq_true h68
    try simp [up1] at q3
    refine c_skip ?_
    refine n_then ?_
    refine c_block ?_
    refine r_seq (by kernel_rfl) ?_
    refine s_val (v_move (v := .int .i64 _) rfl) ?_
    refine s_val (v_idxA (len := 4) (size := 1) (k := .i64) (by kernel_rfl) rfl rfl (by decide)) ?_
    refine s_store1 (v := .int .i64 _) (by kernel_rfl) rfl rfl (.there .here) (rowA_set _ (by decide)) rfl ?_
    refine s_nil ?_
    refine r_list (by kernel_rfl) ?_
    refine s_val (v_move (v := .int .i64 _) rfl) ?_
    refine s_val (v_addL (c := 4) rfl rfl (by decide) (by decide)) ?_
    refine s_val (v_assign (v := .int .i64 _) rfl) ?_
    refine s_end ?_
    refine n_bnormal ?_
    refine n_thenR ?_
    refine r_succ ?_
    refine c_seq ?_
    refine d_seq (by kernel_rfl) (by kernel_rfl) (fun w hw => hw.drew) (by kernel_rfl) ?_
    refine q_val (v_move (v := .int .i64 _) rfl) ?_
    refine q_val (v_lss (k := .i64) rfl rfl) ?_
    refine q_val (v_move (v := .bool _) rfl) ?_
    refine q_pass (g := false) rfl rfl rfl ?_
    refine q_pass (g := false) rfl rfl rfl ?_
    refine q_pass (g := false) rfl rfl rfl ?_
    refine q_pass (g := false) rfl rfl rfl ?_
    refine q_pass (g := false) rfl rfl rfl ?_
    refine q_pass (g := false) rfl rfl rfl ?_
    refine q_pass (g := false) rfl rfl rfl ?_
    refine q_val (v_pickF (v := .bool _) rfl rfl rfl) ?_
    refine q_nil ?_
    refine c_condFh rfl rfl rfl ?_
    refine c_exit ?_
    refine n_exit ?_
    refine n_exit ?_
    refine n_bhere ?_
    refine n_then ?_
    refine c_seq ?_
    refine r_seq (by kernel_rfl) ?_
    refine s_val (v_move (v := .int .i64 _) rfl) ?_
    refine s_val (v_eql (k := .i64) rfl rfl) ?_
    refine s_nil ?_
    refine c_condTh rfl rfl rfl ?_
    refine r_seq (by kernel_rfl) ?_
    refine s_val (v_loadA (m := 4) (by kernel_rfl) rfl (.there (.there .here)) (rowA_size _)) ?_
    refine s_storeA (m := 4) (by kernel_rfl) rfl rfl (.there (.there (.there .here))) (rowA_size _) (rowA_size _) (rowA_all _) ?_
    refine s_nil ?_
    refine c_ret ?_
    refine n_ret ?_
    refine n_bret ?_
    refine n_ret ?_
    refine n_bret ?_
    have hseen : Seen h.core ps s.n s.best := (ho.no ((together_core h ps s.n).trans h44))
    refine n_doneC (m := 4) rfl (by decide) rfl (by kernel_rfl) (.there (.there (.there .here))) (rowA_size _) (congrArg Value.agg ?_)
    exact (mostM_row (hseen.most (fun b hb => by
          have hb4 : b = 0 ∨ b = 1 ∨ b = 2 ∨ b = 3 := by omega
          rcases hb4 with rfl | rfl | rfl | rfl <;> assumption))).symm
  refine r_seq (by kernel_rfl) ?_
  refine s_val (v_move (v := .int .i64 _) rfl) ?_
  refine s_nil ?_
  refine c_block ?_
  refine c_rounds 5 ?_
  refine r_succ ?_
  refine r_seq (by kernel_rfl) ?_
  refine s_val (v_lss (k := .i64) rfl rfl) ?_
  refine s_nil ?_
  refine c_seq ?_
  refine c_condTh rfl rfl rfl ?_
  refine c_skip ?_
  refine n_then ?_
  refine c_seq ?_
  refine c_block ?_
  refine r_seq (by kernel_rfl) ?_
  refine s_val (v_move (v := .int .i64 _) rfl) ?_
  refine s_val (v_assign (v := .int .i64 _) rfl) ?_
  refine s_nil ?_
  refine t_list (k := 9) (by kernel_rfl) (by kernel_rfl) (fun w hw => hw.drew) (by kernel_rfl) ?_
  refine q_val (v_move (v := .int .i64 _) rfl) ?_
  refine q_val (v_move (v := .int .i64 _) rfl) ?_
  refine q_val (v_idxA (len := 4) (size := 1) (k := .i64) (by kernel_rfl) rfl rfl (by decide)) ?_
  refine q_val (v_load1 (v := .int .i64 _) (by kernel_rfl) rfl (.there (.there .here)) (rowA_at0 _ (by decide))) ?_
  refine q_val (v_move (v := .int .i64 _) rfl) ?_
  refine q_val (v_idxA (len := 4) (size := 1) (k := .i64) (by kernel_rfl) rfl rfl (by decide)) ?_
  refine q_val (v_load1 (v := .int .i64 _) (by kernel_rfl) rfl (.there .here) (rowA_at0 _ (by decide))) ?_
  refine q_val (v_max rfl rfl) ?_
  refine q_val (v_idxA (len := 4) (size := 1) (k := .i64) (by kernel_rfl) rfl rfl (by decide)) ?_
  refine q_tail ?_
  refine s_store1 (v := .int .i64 _) (by kernel_rfl) rfl rfl (.there (.there .here)) (rowA_set _ (by decide)) rfl ?_
  refine s_end ?_
  refine n_bnormal ?_
  refine n_then ?_
  refine r_list (by kernel_rfl) ?_
  refine s_val (v_addL (c := 1) rfl rfl (by decide) (by decide)) ?_
  refine s_val (v_move (v := .int .i64 _) rfl) ?_
  refine s_end ?_
  refine n_thenR ?_
  refine r_succ ?_
  refine r_seq (by kernel_rfl) ?_
  refine s_val (v_lss (k := .i64) rfl rfl) ?_
  refine s_nil ?_
  refine c_seq ?_
  refine c_condTh rfl rfl rfl ?_
  refine c_skip ?_
  refine n_then ?_
  refine c_seq ?_
  refine c_block ?_
  refine r_seq (by kernel_rfl) ?_
  refine s_val (v_move (v := .int .i64 _) rfl) ?_
  refine s_val (v_assign (v := .int .i64 _) rfl) ?_
  refine s_nil ?_
  refine t_list (k := 9) (by kernel_rfl) (by kernel_rfl) (fun w hw => hw.drew) (by kernel_rfl) ?_
  refine q_val (v_move (v := .int .i64 _) rfl) ?_
  refine q_val (v_move (v := .int .i64 _) rfl) ?_
  refine q_val (v_idxA (len := 4) (size := 1) (k := .i64) (by kernel_rfl) rfl rfl (by decide)) ?_
  refine q_val (v_load1 (v := .int .i64 _) (by kernel_rfl) rfl (.there (.there .here)) (rowA_at0 _ (by decide))) ?_
  refine q_val (v_move (v := .int .i64 _) rfl) ?_
  refine q_val (v_idxA (len := 4) (size := 1) (k := .i64) (by kernel_rfl) rfl rfl (by decide)) ?_
  refine q_val (v_load1 (v := .int .i64 _) (by kernel_rfl) rfl (.there .here) (rowA_at0 _ (by decide))) ?_
  refine q_val (v_max rfl rfl) ?_
  refine q_val (v_idxA (len := 4) (size := 1) (k := .i64) (by kernel_rfl) rfl rfl (by decide)) ?_
  refine q_tail ?_
  refine s_store1 (v := .int .i64 _) (by kernel_rfl) rfl rfl (.there (.there .here)) (rowA_set _ (by decide)) rfl ?_
  refine s_end ?_
  refine n_bnormal ?_
  refine n_then ?_
  refine r_list (by kernel_rfl) ?_
  refine s_val (v_addL (c := 2) rfl rfl (by decide) (by decide)) ?_
  refine s_val (v_move (v := .int .i64 _) rfl) ?_
  refine s_end ?_
  refine n_thenR ?_
  refine r_succ ?_
  refine r_seq (by kernel_rfl) ?_
  refine s_val (v_lss (k := .i64) rfl rfl) ?_
  refine s_nil ?_
  refine c_seq ?_
  refine c_condTh rfl rfl rfl ?_
  refine c_skip ?_
  refine n_then ?_
  refine c_seq ?_
  refine c_block ?_
  refine r_seq (by kernel_rfl) ?_
  refine s_val (v_move (v := .int .i64 _) rfl) ?_
  refine s_val (v_assign (v := .int .i64 _) rfl) ?_
  refine s_nil ?_
  refine t_list (k := 9) (by kernel_rfl) (by kernel_rfl) (fun w hw => hw.drew) (by kernel_rfl) ?_
  refine q_val (v_move (v := .int .i64 _) rfl) ?_
  refine q_val (v_move (v := .int .i64 _) rfl) ?_
  refine q_val (v_idxA (len := 4) (size := 1) (k := .i64) (by kernel_rfl) rfl rfl (by decide)) ?_
  refine q_val (v_load1 (v := .int .i64 _) (by kernel_rfl) rfl (.there (.there .here)) (rowA_at0 _ (by decide))) ?_
  refine q_val (v_move (v := .int .i64 _) rfl) ?_
  refine q_val (v_idxA (len := 4) (size := 1) (k := .i64) (by kernel_rfl) rfl rfl (by decide)) ?_
  refine q_val (v_load1 (v := .int .i64 _) (by kernel_rfl) rfl (.there .here) (rowA_at0 _ (by decide))) ?_
  refine q_val (v_max rfl rfl) ?_
  refine q_val (v_idxA (len := 4) (size := 1) (k := .i64) (by kernel_rfl) rfl rfl (by decide)) ?_
  refine q_tail ?_
  refine s_store1 (v := .int .i64 _) (by kernel_rfl) rfl rfl (.there (.there .here)) (rowA_set _ (by decide)) rfl ?_
  refine s_end ?_
  refine n_bnormal ?_
  refine n_then ?_
  refine r_list (by kernel_rfl) ?_
  refine s_val (v_addL (c := 3) rfl rfl (by decide) (by decide)) ?_
  refine s_val (v_move (v := .int .i64 _) rfl) ?_
  refine s_end ?_
  refine n_thenR ?_
  refine r_succ ?_
  refine r_seq (by kernel_rfl) ?_
  refine s_val (v_lss (k := .i64) rfl rfl) ?_
  refine s_nil ?_
  refine c_seq ?_
  refine c_condTh rfl rfl rfl ?_
  refine c_skip ?_
  refine n_then ?_
  refine c_seq ?_
  refine c_block ?_
  refine r_seq (by kernel_rfl) ?_
  refine s_val (v_move (v := .int .i64 _) rfl) ?_
  refine s_val (v_assign (v := .int .i64 _) rfl) ?_
  refine s_nil ?_
  refine t_list (k := 9) (by kernel_rfl) (by kernel_rfl) (fun w hw => hw.drew) (by kernel_rfl) ?_
  refine q_val (v_move (v := .int .i64 _) rfl) ?_
  refine q_val (v_move (v := .int .i64 _) rfl) ?_
  refine q_val (v_idxA (len := 4) (size := 1) (k := .i64) (by kernel_rfl) rfl rfl (by decide)) ?_
  refine q_val (v_load1 (v := .int .i64 _) (by kernel_rfl) rfl (.there (.there .here)) (rowA_at0 _ (by decide))) ?_
  refine q_val (v_move (v := .int .i64 _) rfl) ?_
  refine q_val (v_idxA (len := 4) (size := 1) (k := .i64) (by kernel_rfl) rfl rfl (by decide)) ?_
  refine q_val (v_load1 (v := .int .i64 _) (by kernel_rfl) rfl (.there .here) (rowA_at0 _ (by decide))) ?_
  refine q_val (v_max rfl rfl) ?_
  refine q_val (v_idxA (len := 4) (size := 1) (k := .i64) (by kernel_rfl) rfl rfl (by decide)) ?_
  refine q_tail ?_
  refine s_store1 (v := .int .i64 _) (by kernel_rfl) rfl rfl (.there (.there .here)) (rowA_set _ (by decide)) rfl ?_
  refine s_end ?_
  refine n_bnormal ?_
  refine n_then ?_
  refine r_list (by kernel_rfl) ?_
  refine s_val (v_addL (c := 4) rfl rfl (by decide) (by decide)) ?_
  refine s_val (v_move (v := .int .i64 _) rfl) ?_
  refine s_end ?_
  refine n_thenR ?_
  refine r_succ ?_
  refine r_seq (by kernel_rfl) ?_
  refine s_val (v_lss (k := .i64) rfl rfl) ?_
  refine s_nil ?_
  refine c_seq ?_
  refine c_condFh rfl rfl rfl ?_
  refine c_exit ?_
  refine n_exit ?_
  refine n_exit ?_
  refine n_bhere ?_
  refine n_then ?_
  refine r_seq (by kernel_rfl) ?_
  refine s_val (v_assign (v := .int .i64 _) rfl) ?_
  refine s_nil ?_
  refine c_seq ?_
  refine c_block ?_
  refine c_rounds 5 ?_
  refine r_succ ?_
  refine c_seq ?_
  refine d_seq (by kernel_rfl) (by kernel_rfl) (fun w hw => hw.drew) (by kernel_rfl) ?_
  refine q_val (v_move (v := .int .i64 _) rfl) ?_
  refine q_val (v_lss (k := .i64) rfl rfl) ?_
  refine q_val (v_move (v := .bool _) rfl) ?_
  refine q_want rfl rfl rfl ?_
  refine q_val (v_move (v := .int .i64 _) rfl) ?_
  refine q_want rfl rfl rfl ?_
  refine q_val (v_idxA (len := 4) (size := 1) (k := .i64) (by kernel_rfl) rfl rfl (by decide)) ?_
  refine q_want rfl rfl rfl ?_
  refine q_val (v_load1 (v := .int .i64 _) (by kernel_rfl) rfl (.there .here) (rowA_at0 _ (by decide))) ?_
  refine q_want rfl rfl rfl ?_
  refine q_val (v_move (v := .int .i64 _) rfl) ?_
  refine q_want rfl rfl rfl ?_
  refine q_val (v_idxA (len := 4) (size := 1) (k := .i64) (by kernel_rfl) rfl rfl (by decide)) ?_
  refine q_want rfl rfl rfl ?_
  refine q_val (v_load1 (v := .int .i64 _) (by kernel_rfl) rfl .here (rowA_at0 _ (by decide))) ?_
  refine q_want rfl rfl rfl ?_
  refine q_val (v_eql (k := .i64) rfl rfl) ?_
  refine q_val (v_pickT (v := .bool _) rfl rfl rfl) ?_
  refine q_nil ?_
  refine c_condR rfl rfl (fun h68 => ?_) (fun h68 => ?_)
  · have q0 := of_decide_eq_false h68
    try simp [up1] at q0
    refine c_exit ?_
    refine n_exit ?_
    refine n_exit ?_
    refine n_bhere ?_
    refine n_then ?_
    refine c_seq ?_
    refine r_seq (by kernel_rfl) ?_
    refine s_val (v_move (v := .int .i64 _) rfl) ?_
    refine s_val (v_eql (k := .i64) rfl rfl) ?_
    refine s_nil ?_
    refine c_condFh rfl rfl rfl ?_
    refine c_skip ?_
    refine n_then ?_
    have hseen : Seen h.core ps s.n (up1 (up1 (up1 (up1 s.best 0 (maxI (s.best 0) (s.n 0))) 1 (maxI ((up1 s.best 0 (maxI (s.best 0) (s.n 0))) 1) (s.n 1))) 2 (maxI ((up1 (up1 s.best 0 (maxI (s.best 0) (s.n 0))) 1 (maxI ((up1 s.best 0 (maxI (s.best 0) (s.n 0))) 1) (s.n 1))) 2) (s.n 2))) 3 (maxI ((up1 (up1 (up1 s.best 0 (maxI (s.best 0) (s.n 0))) 1 (maxI ((up1 s.best 0 (maxI (s.best 0) (s.n 0))) 1) (s.n 1))) 2 (maxI ((up1 (up1 s.best 0 (maxI (s.best 0) (s.n 0))) 1 (maxI ((up1 s.best 0 (maxI (s.best 0) (s.n 0))) 1) (s.n 1))) 2) (s.n 2))) 3) (s.n 3))) := (ho.yes ((together_core h ps s.n).trans h44) (fun b hb => by
          have hb4 : b = 0 ∨ b = 1 ∨ b = 2 ∨ b = 3 := by omega
          rcases hb4 with rfl | rfl | rfl | rfl <;> simp [up1, joinM, maxI]))
    have hsz0 := ho.size 0 (by omega)
    have hq24 : qLen ps 0 ≤ 24 := by have := queueM_len ps 0; unfold qLen; omega
    have hnn : s.n 0 = s.n 0 := by simp [up1]
    have hnext := hseen.next (n2 := (up1 s.n 0 ((s.n) 0 + 1))) ho.size 0 (by omega) (fun b h0 h1 => by
      have hb4 : b = 0 ∨ b = 1 ∨ b = 2 ∨ b = 3 := by omega
      rcases hb4 with rfl | rfl | rfl | rfl <;> first | (exfalso; omega) | exact ⟨by assumption, by simp [up1]⟩) ⟨by assumption, by simp [up1]⟩ (fun b h0 h1 => by
      have hb4 : b = 0 ∨ b = 1 ∨ b = 2 ∨ b = 3 := by omega
      rcases hb4 with rfl | rfl | rfl | rfl <;> first | (exfalso; omega) | simp [up1])
    refine r_list (by kernel_rfl) ?_
    refine s_val (v_move (v := .int .i64 _) rfl) ?_
    refine s_val (v_idxA (len := 4) (size := 1) (k := .i64) (by kernel_rfl) rfl rfl (by decide)) ?_
    refine s_val (v_load1 (v := .int .i64 _) (by kernel_rfl) rfl (.there .here) (rowA_at0 _ (by decide))) ?_
    refine s_val (v_add rfl rfl (by omega)) ?_
    refine s_val (v_idxA (len := 4) (size := 1) (k := .i64) (by kernel_rfl) rfl rfl (by decide)) ?_
    refine s_store1 (v := .int .i64 _) (by kernel_rfl) rfl rfl (.there .here) (rowA_set _ (by decide)) rfl ?_
    refine s_end ?_
    refine n_bnormal ?_
    refine n_round (s := s) ⟨s.F, (up1 s.n 0 ((s.n) 0 + 1)), (up1 (up1 (up1 (up1 s.best 0 (maxI (s.best 0) (s.n 0))) 1 (maxI ((up1 s.best 0 (maxI (s.best 0) (s.n 0))) 1) (s.n 1))) 2 (maxI ((up1 (up1 s.best 0 (maxI (s.best 0) (s.n 0))) 1 (maxI ((up1 s.best 0 (maxI (s.best 0) (s.n 0))) 1) (s.n 1))) 2) (s.n 2))) 3 (maxI ((up1 (up1 (up1 s.best 0 (maxI (s.best 0) (s.n 0))) 1 (maxI ((up1 s.best 0 (maxI (s.best 0) (s.n 0))) 1) (s.n 1))) 2 (maxI ((up1 (up1 s.best 0 (maxI (s.best 0) (s.n 0))) 1 (maxI ((up1 s.best 0 (maxI (s.best 0) (s.n 0))) 1) (s.n 1))) 2) (s.n 2))) 3) (s.n 3)))⟩ ⟨_, ⟨hnext.1, hmo⟩, live5 rfl rfl rfl rfl rfl⟩ (fun _ hw => hw) (rank_less hl24 ho.size hnext.2)
  have q0 := of_decide_eq_true h68
  try simp [up1] at q0
  refine c_skip ?_
  refine n_then ?_
  refine c_block ?_
  refine r_seq (by kernel_rfl) ?_
  refine s_val (v_move (v := .int .i64 _) rfl) ?_
  refine s_val (v_idxA (len := 4) (size := 1) (k := .i64) (by kernel_rfl) rfl rfl (by decide)) ?_
  refine s_store1 (v := .int .i64 _) (by kernel_rfl) rfl rfl (.there .here) (rowA_set _ (by decide)) rfl ?_
  refine s_nil ?_
  refine r_list (by kernel_rfl) ?_
  refine s_val (v_move (v := .int .i64 _) rfl) ?_
  refine s_val (v_addL (c := 1) rfl rfl (by decide) (by decide)) ?_
  refine s_val (v_assign (v := .int .i64 _) rfl) ?_
  refine s_end ?_
  refine n_bnormal ?_
  refine n_thenR ?_
  refine r_succ ?_
  refine c_seq ?_
  refine d_seq (by kernel_rfl) (by kernel_rfl) (fun w hw => hw.drew) (by kernel_rfl) ?_
  refine q_val (v_move (v := .int .i64 _) rfl) ?_
  refine q_val (v_lss (k := .i64) rfl rfl) ?_
  refine q_val (v_move (v := .bool _) rfl) ?_
  refine q_want rfl rfl rfl ?_
  refine q_val (v_move (v := .int .i64 _) rfl) ?_
  refine q_want rfl rfl rfl ?_
  refine q_val (v_idxA (len := 4) (size := 1) (k := .i64) (by kernel_rfl) rfl rfl (by decide)) ?_
  refine q_want rfl rfl rfl ?_
  refine q_val (v_load1 (v := .int .i64 _) (by kernel_rfl) rfl (.there .here) (rowA_at0 _ (by decide))) ?_
  refine q_want rfl rfl rfl ?_
  refine q_val (v_move (v := .int .i64 _) rfl) ?_
  refine q_want rfl rfl rfl ?_
  refine q_val (v_idxA (len := 4) (size := 1) (k := .i64) (by kernel_rfl) rfl rfl (by decide)) ?_
  refine q_want rfl rfl rfl ?_
  refine q_val (v_load1 (v := .int .i64 _) (by kernel_rfl) rfl .here (rowA_at0 _ (by decide))) ?_
  refine q_want rfl rfl rfl ?_
  refine q_val (v_eql (k := .i64) rfl rfl) ?_
  refine q_val (v_pickT (v := .bool _) rfl rfl rfl) ?_
  refine q_nil ?_
  refine c_condR rfl rfl (fun h68 => ?_) (fun h68 => ?_)
  · have q1 := of_decide_eq_false h68
    try simp [up1] at q1
    refine c_exit ?_
    refine n_exit ?_
    refine n_exit ?_
    refine n_bhere ?_
    refine n_then ?_
    refine c_seq ?_
    refine r_seq (by kernel_rfl) ?_
    refine s_val (v_move (v := .int .i64 _) rfl) ?_
    refine s_val (v_eql (k := .i64) rfl rfl) ?_
    refine s_nil ?_
    refine c_condFh rfl rfl rfl ?_
    refine c_skip ?_
    refine n_then ?_
    have hseen : Seen h.core ps s.n (up1 (up1 (up1 (up1 s.best 0 (maxI (s.best 0) (s.n 0))) 1 (maxI ((up1 s.best 0 (maxI (s.best 0) (s.n 0))) 1) (s.n 1))) 2 (maxI ((up1 (up1 s.best 0 (maxI (s.best 0) (s.n 0))) 1 (maxI ((up1 s.best 0 (maxI (s.best 0) (s.n 0))) 1) (s.n 1))) 2) (s.n 2))) 3 (maxI ((up1 (up1 (up1 s.best 0 (maxI (s.best 0) (s.n 0))) 1 (maxI ((up1 s.best 0 (maxI (s.best 0) (s.n 0))) 1) (s.n 1))) 2 (maxI ((up1 (up1 s.best 0 (maxI (s.best 0) (s.n 0))) 1 (maxI ((up1 s.best 0 (maxI (s.best 0) (s.n 0))) 1) (s.n 1))) 2) (s.n 2))) 3) (s.n 3))) := (ho.yes ((together_core h ps s.n).trans h44) (fun b hb => by
          have hb4 : b = 0 ∨ b = 1 ∨ b = 2 ∨ b = 3 := by omega
          rcases hb4 with rfl | rfl | rfl | rfl <;> simp [up1, joinM, maxI]))
    have hsz1 := ho.size 1 (by omega)
    have hq24 : qLen ps 1 ≤ 24 := by have := queueM_len ps 1; unfold qLen; omega
    have hnn : (up1 s.n 0 0) 1 = s.n 1 := by simp [up1]
    have hnext := hseen.next (n2 := (up1 (up1 s.n 0 0) 1 (((up1 s.n 0 0)) 1 + 1))) ho.size 1 (by omega) (fun b h0 h1 => by
      have hb4 : b = 0 ∨ b = 1 ∨ b = 2 ∨ b = 3 := by omega
      rcases hb4 with rfl | rfl | rfl | rfl <;> first | (exfalso; omega) | exact ⟨by assumption, by simp [up1]⟩) ⟨by assumption, by simp [up1]⟩ (fun b h0 h1 => by
      have hb4 : b = 0 ∨ b = 1 ∨ b = 2 ∨ b = 3 := by omega
      rcases hb4 with rfl | rfl | rfl | rfl <;> first | (exfalso; omega) | simp [up1])
    refine r_list (by kernel_rfl) ?_
    refine s_val (v_move (v := .int .i64 _) rfl) ?_
    refine s_val (v_idxA (len := 4) (size := 1) (k := .i64) (by kernel_rfl) rfl rfl (by decide)) ?_
    refine s_val (v_load1 (v := .int .i64 _) (by kernel_rfl) rfl (.there .here) (rowA_at0 _ (by decide))) ?_
    refine s_val (v_add rfl rfl (by omega)) ?_
    refine s_val (v_idxA (len := 4) (size := 1) (k := .i64) (by kernel_rfl) rfl rfl (by decide)) ?_
    refine s_store1 (v := .int .i64 _) (by kernel_rfl) rfl rfl (.there .here) (rowA_set _ (by decide)) rfl ?_
    refine s_end ?_
    refine n_bnormal ?_
    refine n_round (s := s) ⟨s.F, (up1 (up1 s.n 0 0) 1 (((up1 s.n 0 0)) 1 + 1)), (up1 (up1 (up1 (up1 s.best 0 (maxI (s.best 0) (s.n 0))) 1 (maxI ((up1 s.best 0 (maxI (s.best 0) (s.n 0))) 1) (s.n 1))) 2 (maxI ((up1 (up1 s.best 0 (maxI (s.best 0) (s.n 0))) 1 (maxI ((up1 s.best 0 (maxI (s.best 0) (s.n 0))) 1) (s.n 1))) 2) (s.n 2))) 3 (maxI ((up1 (up1 (up1 s.best 0 (maxI (s.best 0) (s.n 0))) 1 (maxI ((up1 s.best 0 (maxI (s.best 0) (s.n 0))) 1) (s.n 1))) 2 (maxI ((up1 (up1 s.best 0 (maxI (s.best 0) (s.n 0))) 1 (maxI ((up1 s.best 0 (maxI (s.best 0) (s.n 0))) 1) (s.n 1))) 2) (s.n 2))) 3) (s.n 3)))⟩ ⟨_, ⟨hnext.1, hmo⟩, live5 rfl rfl rfl rfl rfl⟩ (fun _ hw => hw) (rank_less hl24 ho.size hnext.2)
  have q1 := of_decide_eq_true h68
  try simp [up1] at q1
  refine c_skip ?_
  refine n_then ?_
  refine c_block ?_
  refine r_seq (by kernel_rfl) ?_
  refine s_val (v_move (v := .int .i64 _) rfl) ?_
  refine s_val (v_idxA (len := 4) (size := 1) (k := .i64) (by kernel_rfl) rfl rfl (by decide)) ?_
  refine s_store1 (v := .int .i64 _) (by kernel_rfl) rfl rfl (.there .here) (rowA_set _ (by decide)) rfl ?_
  refine s_nil ?_
  refine r_list (by kernel_rfl) ?_
  refine s_val (v_move (v := .int .i64 _) rfl) ?_
  refine s_val (v_addL (c := 2) rfl rfl (by decide) (by decide)) ?_
  refine s_val (v_assign (v := .int .i64 _) rfl) ?_
  refine s_end ?_
  refine n_bnormal ?_
  refine n_thenR ?_
  refine r_succ ?_
  refine c_seq ?_
  refine d_seq (by kernel_rfl) (by kernel_rfl) (fun w hw => hw.drew) (by kernel_rfl) ?_
  refine q_val (v_move (v := .int .i64 _) rfl) ?_
  refine q_val (v_lss (k := .i64) rfl rfl) ?_
  refine q_val (v_move (v := .bool _) rfl) ?_
  refine q_want rfl rfl rfl ?_
  refine q_val (v_move (v := .int .i64 _) rfl) ?_
  refine q_want rfl rfl rfl ?_
  refine q_val (v_idxA (len := 4) (size := 1) (k := .i64) (by kernel_rfl) rfl rfl (by decide)) ?_
  refine q_want rfl rfl rfl ?_
  refine q_val (v_load1 (v := .int .i64 _) (by kernel_rfl) rfl (.there .here) (rowA_at0 _ (by decide))) ?_
  refine q_want rfl rfl rfl ?_
  refine q_val (v_move (v := .int .i64 _) rfl) ?_
  refine q_want rfl rfl rfl ?_
  refine q_val (v_idxA (len := 4) (size := 1) (k := .i64) (by kernel_rfl) rfl rfl (by decide)) ?_
  refine q_want rfl rfl rfl ?_
  refine q_val (v_load1 (v := .int .i64 _) (by kernel_rfl) rfl .here (rowA_at0 _ (by decide))) ?_
  refine q_want rfl rfl rfl ?_
  refine q_val (v_eql (k := .i64) rfl rfl) ?_
  refine q_val (v_pickT (v := .bool _) rfl rfl rfl) ?_
  refine q_nil ?_
  refine c_condR rfl rfl (fun h68 => ?_) (fun h68 => ?_)
  · have q2 := of_decide_eq_false h68
    try simp [up1] at q2
    refine c_exit ?_
    refine n_exit ?_
    refine n_exit ?_
    refine n_bhere ?_
    refine n_then ?_
    refine c_seq ?_
    refine r_seq (by kernel_rfl) ?_
    refine s_val (v_move (v := .int .i64 _) rfl) ?_
    refine s_val (v_eql (k := .i64) rfl rfl) ?_
    refine s_nil ?_
    refine c_condFh rfl rfl rfl ?_
    refine c_skip ?_
    refine n_then ?_
    have hseen : Seen h.core ps s.n (up1 (up1 (up1 (up1 s.best 0 (maxI (s.best 0) (s.n 0))) 1 (maxI ((up1 s.best 0 (maxI (s.best 0) (s.n 0))) 1) (s.n 1))) 2 (maxI ((up1 (up1 s.best 0 (maxI (s.best 0) (s.n 0))) 1 (maxI ((up1 s.best 0 (maxI (s.best 0) (s.n 0))) 1) (s.n 1))) 2) (s.n 2))) 3 (maxI ((up1 (up1 (up1 s.best 0 (maxI (s.best 0) (s.n 0))) 1 (maxI ((up1 s.best 0 (maxI (s.best 0) (s.n 0))) 1) (s.n 1))) 2 (maxI ((up1 (up1 s.best 0 (maxI (s.best 0) (s.n 0))) 1 (maxI ((up1 s.best 0 (maxI (s.best 0) (s.n 0))) 1) (s.n 1))) 2) (s.n 2))) 3) (s.n 3))) := (ho.yes ((together_core h ps s.n).trans h44) (fun b hb => by
          have hb4 : b = 0 ∨ b = 1 ∨ b = 2 ∨ b = 3 := by omega
          rcases hb4 with rfl | rfl | rfl | rfl <;> simp [up1, joinM, maxI]))
    have hsz2 := ho.size 2 (by omega)
    have hq24 : qLen ps 2 ≤ 24 := by have := queueM_len ps 2; unfold qLen; omega
    have hnn : (up1 (up1 s.n 0 0) 1 0) 2 = s.n 2 := by simp [up1]
    have hnext := hseen.next (n2 := (up1 (up1 (up1 s.n 0 0) 1 0) 2 (((up1 (up1 s.n 0 0) 1 0)) 2 + 1))) ho.size 2 (by omega) (fun b h0 h1 => by
      have hb4 : b = 0 ∨ b = 1 ∨ b = 2 ∨ b = 3 := by omega
      rcases hb4 with rfl | rfl | rfl | rfl <;> first | (exfalso; omega) | exact ⟨by assumption, by simp [up1]⟩) ⟨by assumption, by simp [up1]⟩ (fun b h0 h1 => by
      have hb4 : b = 0 ∨ b = 1 ∨ b = 2 ∨ b = 3 := by omega
      rcases hb4 with rfl | rfl | rfl | rfl <;> first | (exfalso; omega) | simp [up1])
    refine r_list (by kernel_rfl) ?_
    refine s_val (v_move (v := .int .i64 _) rfl) ?_
    refine s_val (v_idxA (len := 4) (size := 1) (k := .i64) (by kernel_rfl) rfl rfl (by decide)) ?_
    refine s_val (v_load1 (v := .int .i64 _) (by kernel_rfl) rfl (.there .here) (rowA_at0 _ (by decide))) ?_
    refine s_val (v_add rfl rfl (by omega)) ?_
    refine s_val (v_idxA (len := 4) (size := 1) (k := .i64) (by kernel_rfl) rfl rfl (by decide)) ?_
    refine s_store1 (v := .int .i64 _) (by kernel_rfl) rfl rfl (.there .here) (rowA_set _ (by decide)) rfl ?_
    refine s_end ?_
    refine n_bnormal ?_
    refine n_round (s := s) ⟨s.F, (up1 (up1 (up1 s.n 0 0) 1 0) 2 (((up1 (up1 s.n 0 0) 1 0)) 2 + 1)), (up1 (up1 (up1 (up1 s.best 0 (maxI (s.best 0) (s.n 0))) 1 (maxI ((up1 s.best 0 (maxI (s.best 0) (s.n 0))) 1) (s.n 1))) 2 (maxI ((up1 (up1 s.best 0 (maxI (s.best 0) (s.n 0))) 1 (maxI ((up1 s.best 0 (maxI (s.best 0) (s.n 0))) 1) (s.n 1))) 2) (s.n 2))) 3 (maxI ((up1 (up1 (up1 s.best 0 (maxI (s.best 0) (s.n 0))) 1 (maxI ((up1 s.best 0 (maxI (s.best 0) (s.n 0))) 1) (s.n 1))) 2 (maxI ((up1 (up1 s.best 0 (maxI (s.best 0) (s.n 0))) 1 (maxI ((up1 s.best 0 (maxI (s.best 0) (s.n 0))) 1) (s.n 1))) 2) (s.n 2))) 3) (s.n 3)))⟩ ⟨_, ⟨hnext.1, hmo⟩, live5 rfl rfl rfl rfl rfl⟩ (fun _ hw => hw) (rank_less hl24 ho.size hnext.2)
  have q2 := of_decide_eq_true h68
  try simp [up1] at q2
  refine c_skip ?_
  refine n_then ?_
  refine c_block ?_
  refine r_seq (by kernel_rfl) ?_
  refine s_val (v_move (v := .int .i64 _) rfl) ?_
  refine s_val (v_idxA (len := 4) (size := 1) (k := .i64) (by kernel_rfl) rfl rfl (by decide)) ?_
  refine s_store1 (v := .int .i64 _) (by kernel_rfl) rfl rfl (.there .here) (rowA_set _ (by decide)) rfl ?_
  refine s_nil ?_
  refine r_list (by kernel_rfl) ?_
  refine s_val (v_move (v := .int .i64 _) rfl) ?_
  refine s_val (v_addL (c := 3) rfl rfl (by decide) (by decide)) ?_
  refine s_val (v_assign (v := .int .i64 _) rfl) ?_
  refine s_end ?_
  refine n_bnormal ?_
  refine n_thenR ?_
  refine r_succ ?_
  refine c_seq ?_
  refine d_seq (by kernel_rfl) (by kernel_rfl) (fun w hw => hw.drew) (by kernel_rfl) ?_
  refine q_val (v_move (v := .int .i64 _) rfl) ?_
  refine q_val (v_lss (k := .i64) rfl rfl) ?_
  refine q_val (v_move (v := .bool _) rfl) ?_
  refine q_want rfl rfl rfl ?_
  refine q_val (v_move (v := .int .i64 _) rfl) ?_
  refine q_want rfl rfl rfl ?_
  refine q_val (v_idxA (len := 4) (size := 1) (k := .i64) (by kernel_rfl) rfl rfl (by decide)) ?_
  refine q_want rfl rfl rfl ?_
  refine q_val (v_load1 (v := .int .i64 _) (by kernel_rfl) rfl (.there .here) (rowA_at0 _ (by decide))) ?_
  refine q_want rfl rfl rfl ?_
  refine q_val (v_move (v := .int .i64 _) rfl) ?_
  refine q_want rfl rfl rfl ?_
  refine q_val (v_idxA (len := 4) (size := 1) (k := .i64) (by kernel_rfl) rfl rfl (by decide)) ?_
  refine q_want rfl rfl rfl ?_
  refine q_val (v_load1 (v := .int .i64 _) (by kernel_rfl) rfl .here (rowA_at0 _ (by decide))) ?_
  refine q_want rfl rfl rfl ?_
  refine q_val (v_eql (k := .i64) rfl rfl) ?_
  refine q_val (v_pickT (v := .bool _) rfl rfl rfl) ?_
  refine q_nil ?_
  refine c_condR rfl rfl (fun h68 => ?_) (fun h68 => ?_)
  · have q3 := of_decide_eq_false h68
    try simp [up1] at q3
    refine c_exit ?_
    refine n_exit ?_
    refine n_exit ?_
    refine n_bhere ?_
    refine n_then ?_
    refine c_seq ?_
    refine r_seq (by kernel_rfl) ?_
    refine s_val (v_move (v := .int .i64 _) rfl) ?_
    refine s_val (v_eql (k := .i64) rfl rfl) ?_
    refine s_nil ?_
    refine c_condFh rfl rfl rfl ?_
    refine c_skip ?_
    refine n_then ?_
    have hseen : Seen h.core ps s.n (up1 (up1 (up1 (up1 s.best 0 (maxI (s.best 0) (s.n 0))) 1 (maxI ((up1 s.best 0 (maxI (s.best 0) (s.n 0))) 1) (s.n 1))) 2 (maxI ((up1 (up1 s.best 0 (maxI (s.best 0) (s.n 0))) 1 (maxI ((up1 s.best 0 (maxI (s.best 0) (s.n 0))) 1) (s.n 1))) 2) (s.n 2))) 3 (maxI ((up1 (up1 (up1 s.best 0 (maxI (s.best 0) (s.n 0))) 1 (maxI ((up1 s.best 0 (maxI (s.best 0) (s.n 0))) 1) (s.n 1))) 2 (maxI ((up1 (up1 s.best 0 (maxI (s.best 0) (s.n 0))) 1 (maxI ((up1 s.best 0 (maxI (s.best 0) (s.n 0))) 1) (s.n 1))) 2) (s.n 2))) 3) (s.n 3))) := (ho.yes ((together_core h ps s.n).trans h44) (fun b hb => by
          have hb4 : b = 0 ∨ b = 1 ∨ b = 2 ∨ b = 3 := by omega
          rcases hb4 with rfl | rfl | rfl | rfl <;> simp [up1, joinM, maxI]))
    have hsz3 := ho.size 3 (by omega)
    have hq24 : qLen ps 3 ≤ 24 := by have := queueM_len ps 3; unfold qLen; omega
    have hnn : (up1 (up1 (up1 s.n 0 0) 1 0) 2 0) 3 = s.n 3 := by simp [up1]
    have hnext := hseen.next (n2 := (up1 (up1 (up1 (up1 s.n 0 0) 1 0) 2 0) 3 (((up1 (up1 (up1 s.n 0 0) 1 0) 2 0)) 3 + 1))) ho.size 3 (by omega) (fun b h0 h1 => by
      have hb4 : b = 0 ∨ b = 1 ∨ b = 2 ∨ b = 3 := by omega
      rcases hb4 with rfl | rfl | rfl | rfl <;> first | (exfalso; omega) | exact ⟨by assumption, by simp [up1]⟩) ⟨by assumption, by simp [up1]⟩ (fun b h0 h1 => by
      have hb4 : b = 0 ∨ b = 1 ∨ b = 2 ∨ b = 3 := by omega
      rcases hb4 with rfl | rfl | rfl | rfl <;> first | (exfalso; omega) | simp [up1])
    refine r_list (by kernel_rfl) ?_
    refine s_val (v_move (v := .int .i64 _) rfl) ?_
    refine s_val (v_idxA (len := 4) (size := 1) (k := .i64) (by kernel_rfl) rfl rfl (by decide)) ?_
    refine s_val (v_load1 (v := .int .i64 _) (by kernel_rfl) rfl (.there .here) (rowA_at0 _ (by decide))) ?_
    refine s_val (v_add rfl rfl (by omega)) ?_
    refine s_val (v_idxA (len := 4) (size := 1) (k := .i64) (by kernel_rfl) rfl rfl (by decide)) ?_
    refine s_store1 (v := .int .i64 _) (by kernel_rfl) rfl rfl (.there .here) (rowA_set _ (by decide)) rfl ?_
    refine s_end ?_
    refine n_bnormal ?_
    refine n_round (s := s) ⟨s.F, (up1 (up1 (up1 (up1 s.n 0 0) 1 0) 2 0) 3 (((up1 (up1 (up1 s.n 0 0) 1 0) 2 0)) 3 + 1)), (up1 (up1 (up1 (up1 s.best 0 (maxI (s.best 0) (s.n 0))) 1 (maxI ((up1 s.best 0 (maxI (s.best 0) (s.n 0))) 1) (s.n 1))) 2 (maxI ((up1 (up1 s.best 0 (maxI (s.best 0) (s.n 0))) 1 (maxI ((up1 s.best 0 (maxI (s.best 0) (s.n 0))) 1) (s.n 1))) 2) (s.n 2))) 3 (maxI ((up1 (up1 (up1 s.best 0 (maxI (s.best 0) (s.n 0))) 1 (maxI ((up1 s.best 0 (maxI (s.best 0) (s.n 0))) 1) (s.n 1))) 2 (maxI ((up1 (up1 s.best 0 (maxI (s.best 0) (s.n 0))) 1 (maxI ((up1 s.best 0 (maxI (s.best 0) (s.n 0))) 1) (s.n 1))) 2) (s.n 2))) 3) (s.n 3)))⟩ ⟨_, ⟨hnext.1, hmo⟩, live5 rfl rfl rfl rfl rfl⟩ (fun _ hw => hw) (rank_less hl24 ho.size hnext.2)
  have q3 := of_decide_eq_true h68
  try simp [up1] at q3
  refine c_skip ?_
  refine n_then ?_
  refine c_block ?_
  refine r_seq (by kernel_rfl) ?_
  refine s_val (v_move (v := .int .i64 _) rfl) ?_
  refine s_val (v_idxA (len := 4) (size := 1) (k := .i64) (by kernel_rfl) rfl rfl (by decide)) ?_
  refine s_store1 (v := .int .i64 _) (by kernel_rfl) rfl rfl (.there .here) (rowA_set _ (by decide)) rfl ?_
  refine s_nil ?_
  refine r_list (by kernel_rfl) ?_
  refine s_val (v_move (v := .int .i64 _) rfl) ?_
  refine s_val (v_addL (c := 4) rfl rfl (by decide) (by decide)) ?_
  refine s_val (v_assign (v := .int .i64 _) rfl) ?_
  refine s_end ?_
  refine n_bnormal ?_
  refine n_thenR ?_
  refine r_succ ?_
  refine c_seq ?_
  refine d_seq (by kernel_rfl) (by kernel_rfl) (fun w hw => hw.drew) (by kernel_rfl) ?_
  refine q_val (v_move (v := .int .i64 _) rfl) ?_
  refine q_val (v_lss (k := .i64) rfl rfl) ?_
  refine q_val (v_move (v := .bool _) rfl) ?_
  refine q_pass (g := false) rfl rfl rfl ?_
  refine q_pass (g := false) rfl rfl rfl ?_
  refine q_pass (g := false) rfl rfl rfl ?_
  refine q_pass (g := false) rfl rfl rfl ?_
  refine q_pass (g := false) rfl rfl rfl ?_
  refine q_pass (g := false) rfl rfl rfl ?_
  refine q_pass (g := false) rfl rfl rfl ?_
  refine q_val (v_pickF (v := .bool _) rfl rfl rfl) ?_
  refine q_nil ?_
  refine c_condFh rfl rfl rfl ?_
  refine c_exit ?_
  refine n_exit ?_
  refine n_exit ?_
  refine n_bhere ?_
  refine n_then ?_
  refine c_seq ?_
  refine r_seq (by kernel_rfl) ?_
  refine s_val (v_move (v := .int .i64 _) rfl) ?_
  refine s_val (v_eql (k := .i64) rfl rfl) ?_
  refine s_nil ?_
  refine c_condTh rfl rfl rfl ?_
  refine r_seq (by kernel_rfl) ?_
  refine s_val (v_loadA (m := 4) (by kernel_rfl) rfl (.there (.there .here)) (rowA_size _)) ?_
  refine s_storeA (m := 4) (by kernel_rfl) rfl rfl (.there (.there (.there .here))) (rowA_size _) (rowA_size _) (rowA_all _) ?_
  refine s_nil ?_
  refine c_ret ?_
  refine n_ret ?_
  refine n_bret ?_
  refine n_ret ?_
  refine n_bret ?_
  have hseen : Seen h.core ps s.n (up1 (up1 (up1 (up1 s.best 0 (maxI (s.best 0) (s.n 0))) 1 (maxI ((up1 s.best 0 (maxI (s.best 0) (s.n 0))) 1) (s.n 1))) 2 (maxI ((up1 (up1 s.best 0 (maxI (s.best 0) (s.n 0))) 1 (maxI ((up1 s.best 0 (maxI (s.best 0) (s.n 0))) 1) (s.n 1))) 2) (s.n 2))) 3 (maxI ((up1 (up1 (up1 s.best 0 (maxI (s.best 0) (s.n 0))) 1 (maxI ((up1 s.best 0 (maxI (s.best 0) (s.n 0))) 1) (s.n 1))) 2 (maxI ((up1 (up1 s.best 0 (maxI (s.best 0) (s.n 0))) 1 (maxI ((up1 s.best 0 (maxI (s.best 0) (s.n 0))) 1) (s.n 1))) 2) (s.n 2))) 3) (s.n 3))) := (ho.yes ((together_core h ps s.n).trans h44) (fun b hb => by
        have hb4 : b = 0 ∨ b = 1 ∨ b = 2 ∨ b = 3 := by omega
        rcases hb4 with rfl | rfl | rfl | rfl <;> simp [up1, joinM, maxI]))
  refine n_doneC (m := 4) rfl (by decide) rfl (by kernel_rfl) (.there (.there (.there .here))) (rowA_size _) (congrArg Value.agg ?_)
  exact (mostM_row (hseen.most (fun b hb => by
        have hb4 : b = 0 ∨ b = 1 ∨ b = 2 ∨ b = 3 := by omega
        rcases hb4 with rfl | rfl | rfl | rfl <;> assumption))).symm

end Go.Proofs.Ytmkboljfbmlebaa
/- Contract of the document side of what is settled together. Condition: the payments lie in memory that is known. -/
namespace Go.Proofs.Ytmkboljfbmlebaa
open Go.RowKit
set_option linter.unusedSimpArgs false
set_option linter.unusedVariables false
set_option maxRecDepth 100000
attribute [local irreducible] cC sC nC rC qw

set_option maxHeartbeats 1000000 in
theorem gr_UntieHouse (h : H) (ps : List PayS) (w : World) (hp : PaysIn (At w) h.pa h.pl ps) (hb : h.pl * 48 ≤ 281474976710656) (hlc : h.pl ≤ h.pc) : GivesF Try.prog 42 [.agg h.cells] w (SweepF h ps (untieM h.core ps)) := by
  refine givesF_of Try.func42 rfl Try.ntmps42 (by simp) ?_
  refine r_seq (by kernel_rfl) ?_
  refine s_box (v := .agg _) rfl (fun b1 => ?_)
  refine s_alloc (z := .agg zeroH.cells) (by kernel_rfl) (fun b2 => ?_)
  refine s_val (v_assign (v := .slice _ _ _) rfl) ?_
  refine s_nil ?_
  refine r_seq (by kernel_rfl) ?_
  refine s_val (v_loadA (m := 42) (by kernel_rfl) rfl (.there .here) (H.size _)) ?_
  refine s_call (by kernel_rfl) (fun w hw => gr_MostOf h ps w (hp.at hw) hb hlc) ?_
  refine s_alloc (z := .agg (rowA fun _ => 0)) (by kernel_rfl) (fun b4 => ?_)
  refine s_storeA (m := 4) (by kernel_rfl) rfl rfl .here (rowA_size _) (rowA_size _) (rowA_all _) ?_
  refine s_nil ?_
  refine r_seq (by kernel_rfl) ?_
  refine s_val (v_assign (v := .slice _ _ _) rfl) ?_
  refine s_nil ?_
  refine r_seq (by kernel_rfl) ?_
  refine s_val (v_loadA (m := 42) (by kernel_rfl) rfl (.there (.there .here)) (H.size _)) ?_
  refine s_alloc (z := .agg zeroH.cells) (by kernel_rfl) (fun b6 => ?_)
  refine s_storeA (m := 42) (by kernel_rfl) rfl rfl .here (H.size _) (H.size _) (H.all1 _) ?_
  refine s_nil ?_
  refine c_seq ?_
  refine r_seq (by kernel_rfl) ?_
  refine s_val (v_move (v := .int .i64 _) rfl) ?_
  refine s_nil ?_
  refine c_block ?_
  refine c_loop (σ := SwG) (fun (t : SwG) f => ∃ g, (UnOk w h ps 3 (upTo ps (mostM h.core ps) t.bank) t ∧ t.bank ≤ 4) ∧ f = (upd (upd (upd (upd (upd (upd g 1 (.pointer (some ⟨b1, 0, none⟩))) 2 (.pointer (some ⟨b2, 0, none⟩))) 4 (.pointer (some ⟨b4, 0, none⟩))) 5 (t.v)) 6 (.pointer (some ⟨b6, 0, none⟩))) 13 (I t.bank))) (fun (t : SwG) => Has w t.F (t.E ++ [(b6, .cells t.h.cells 29), (b4, .cells (rowA (mostM h.core ps)) 25), (b2, .cells zeroH.cells 29), (b1, .cells h.cells 29)])) (fun (t : SwG) => 4 - t.bank) ⟨At w, h, ps, [], .slice none 0 0, [], 0, 0⟩ ⟨_, ⟨⟨swOk_start hp hlc, rfl, rfl, rfl, fun _ _ h => h⟩, Nat.zero_le _⟩, live6 rfl rfl rfl rfl rfl rfl⟩ (fun w hw => hw) ?_
  rintro t _ ⟨g, ⟨ho0, hbl⟩, rfl⟩
  refine r_seq (by kernel_rfl) ?_
  refine s_val (v_lss (k := .i64) rfl rfl) ?_
  refine s_nil ?_
  refine c_seq ?_
  refine c_condR rfl rfl (fun h14 => ?_) (fun h14 => ?_)
  · have hb4 : t.bank = 4 := by have := of_decide_eq_false h14; omega
    refine c_exit ?_
    refine n_exit ?_
    refine n_exit ?_
    refine n_bhere ?_
    refine n_then ?_
    refine r_seq (by kernel_rfl) ?_
    refine s_val (v_loadA (m := 42) (by kernel_rfl) rfl (.app .here) (H.size _)) ?_
    refine s_val (v_move (v := _) rfl) ?_
    refine s_storeA (m := 42) (by kernel_rfl) rfl rfl (.app (.there (.there .here))) (H.size _) (H.size _) (H.all1 _) ?_
    refine s_val (v_assign (v := _) rfl) ?_
    refine s_nil ?_
    refine c_ret ?_
    refine n_done2F (m := 42) rfl (by decide) (by decide) rfl (by kernel_rfl) (.app (.there (.there .here))) (H.size _) (fun w hw => ?_)
    have e : t.q = untieM h.core ps := by
      have e1 := ho0.eq
      have e2 := ho0.c
      have e3 := ho0.p
      rw [hb4, upTo_all] at e1 e2 e3
      unfold SwG.q untieM untieXs
      rw [e1, e2, e3]
      rfl
    rw [← e]
    exact ho0.sw.done hw
  have hb4 : t.bank < 4 := by have := of_decide_eq_true h14; omega
  have hbi : 0 ≤ (t.bank : Int) ∧ (t.bank : Int) < 4 := ⟨by omega, by omega⟩
  refine c_skip ?_
  refine n_then ?_
  refine c_seq ?_
  refine c_block ?_
  refine r_seq (by kernel_rfl) ?_
  refine s_val (v_move (v := .int .i64 _) rfl) ?_
  refine s_val (v_assign (v := .int .i64 _) rfl) ?_
  refine s_nil ?_
  refine r_seq (by kernel_rfl) ?_
  refine s_val (v_loadA (m := 42) (by kernel_rfl) rfl (.app (.there (.there (.there .here)))) (H.size _)) ?_
  refine s_val (v_move (v := .int .i64 _) rfl) ?_
  refine s_callF (by kernel_rfl) (fun w hw => gr_QueueOf h ps t.bank w ((hp.mono ho0.more).at hw) hb hlc) (fun F18 v18 E18 hF18 hK18 hR18 => ?_)
  obtain ⟨a18, c18, rfl, ia18⟩ := (ints_of_list hR18 hK18).at
  refine s_val (v_lenS (T := 43) (m := 1) (by kernel_rfl) rfl rfl) ?_
  refine s_val (v_move (v := .int .i64 _) rfl) ?_
  refine s_nil ?_
  refine c_block ?_
  refine c_loop (σ := SwG) (fun (u : SwG) f => ∃ g, (u.idle ≤ (queueM ps t.bank).length ∧ More F18 u.F ∧ UnOk w h ps 3 (unXs ps (mostM h.core ps) t.bank u.idle) u) ∧ f = (upd (upd (upd (upd (upd (upd (upd (upd (upd (upd g 1 (.pointer (some ⟨b1, 0, none⟩))) 2 (.pointer (some ⟨b2, 0, none⟩))) 4 (.pointer (some ⟨b4, 0, none⟩))) 5 (u.v)) 6 (.pointer (some ⟨b6, 0, none⟩))) 7 (I t.bank)) 13 (I t.bank)) 18 (.slice a18 (queueM ps t.bank).length c18)) 19 (I (queueM ps t.bank).length)) 20 (I u.idle))) (fun (u : SwG) => Has w u.F (u.E ++ [(b6, .cells u.h.cells 29), (b4, .cells (rowA (mostM h.core ps)) 25), (b2, .cells zeroH.cells 29), (b1, .cells h.cells 29)])) (fun (u : SwG) => (queueM ps t.bank).length - u.idle) ⟨F18, t.h, t.ps, t.xs, t.v, t.E, t.bank, 0⟩ ⟨_, ⟨Nat.zero_le _, fun _ _ h => h, by rw [un_none]; exact ho0.learn hF18 _ _⟩, live10 rfl rfl rfl rfl rfl rfl rfl rfl rfl rfl⟩ (fun w hw => hw) ?_
  rintro u _ ⟨g, ⟨hul, hmu, ho⟩, rfl⟩
  refine r_seq (by kernel_rfl) ?_
  refine s_val (v_lss (k := .i64) rfl rfl) ?_
  refine s_nil ?_
  refine c_seq ?_
  refine c_condR rfl rfl (fun h21 => ?_) (fun h21 => ?_)
  · have hj0 := of_decide_eq_false h21
    refine c_exit ?_
    refine n_exit ?_
    refine n_exit ?_
    refine n_bhere ?_
    refine n_bnormal ?_
    refine n_then ?_
    refine r_list (by kernel_rfl) ?_
    refine s_val (v_add rfl rfl (by omega)) ?_
    refine s_val (v_move (v := .int .i64 _) rfl) ?_
    refine s_end ?_
    refine n_round (s := t) ⟨u.F, u.h, u.ps, u.xs, u.v, u.E, t.bank + 1, 0⟩ ⟨_, ⟨by dsimp only; rw [← un_end (j := u.idle) (by omega)]; exact ho.learn (fun _ _ h => h) _ _, by dsimp only; omega⟩, live6 rfl rfl rfl rfl rfl rfl⟩ (fun _ hw => hw) (by dsimp only; omega)
  have hj0 := of_decide_eq_true h21
  obtain ⟨bq, oq, i, ha18, hi, hfi⟩ := ia18.get (j := u.idle) (by omega)
  obtain ⟨p, hst0, hst1⟩ := un_settles (m := mostM h.core ps) hi
  have hst : settles u.ps i = some p := by rw [ho.p]; exact hst0
  have hcs := cnt_settle hst
  have hsum := ho.sw.sum
  have hlen := ho.sw.len
  have hql := queueM_len ps t.bank
  have hpl := hp.1
  refine c_skip ?_
  refine n_then ?_
  refine c_seq ?_
  refine c_block ?_
  refine r_seq (by kernel_rfl) ?_
  refine s_val (v_move (v := .int .i64 _) rfl) ?_
  refine s_val (v_idxS (size := 1) (k := .i64) (by kernel_rfl) (congrArg (fun a => Value.slice a (queueM ps t.bank).length c18) ha18) rfl ⟨by omega, by omega⟩) ?_
  refine s_val (v_load1o (v := I i) (by kernel_rfl) rfl (by simpa using hmu _ _ hfi)) ?_
  refine s_val (v_assign (v := .int .i64 _) rfl) ?_
  refine s_val (v_assign (v := .int .i64 _) rfl) ?_
  refine s_nil ?_
  refine r_seq (by kernel_rfl) ?_
  refine s_val (v_move (v := .int .i64 _) rfl) ?_
  refine s_val (v_move (v := .int .i64 _) rfl) ?_
  refine s_val (v_idxA (len := 4) (size := 1) (k := .i64) (by kernel_rfl) rfl rfl hbi) ?_
  refine s_val (v_load1 (v := .int .i64 _) (by kernel_rfl) rfl (.app (.there .here)) (rowA_at0 _ hbi)) ?_
  refine s_val (v_lss (k := .i64) rfl rfl) ?_
  refine s_nil ?_
  refine c_condR rfl rfl (fun h29 => ?_) (fun h29 => ?_)
  · refine c_skip ?_
    refine n_bnormal ?_
    refine n_then ?_
    refine r_list (by kernel_rfl) ?_
    refine s_val (v_add rfl rfl (by omega)) ?_
    refine s_val (v_move (v := .int .i64 _) rfl) ?_
    refine s_end ?_
    refine n_round (s := u) ⟨u.F, u.h, u.ps, u.xs, u.v, u.E, t.bank, u.idle + 1⟩ ⟨_, ⟨by dsimp only; omega, hmu, by dsimp only; rw [un_no (of_decide_eq_false h29)]; exact ho.learn (fun _ _ h => h) _ _⟩, live10 rfl rfl rfl rfl rfl rfl rfl rfl rfl rfl⟩ (fun _ hw => hw) (by dsimp only; omega)
  refine r_seq (by kernel_rfl) ?_
  refine s_val (v_loadA (m := 42) (by kernel_rfl) rfl (.app .here) (H.size _)) ?_
  refine s_val (v_move (v := .int .i64 _) rfl) ?_
  refine s_callG (by kernel_rfl) (houseF_mono _ _ _ _) (fun w hw => gr_SettlePay u.h u.ps i w (ho.sw.pays.at hw) (by omega) ho.sw.lc) (fun F32 v32 hF32 hR32 => ?_)
  obtain ⟨h32, rfl, hco32, hlc32, hpo32⟩ := hR32
  refine s_storeA (m := 42) (by kernel_rfl) rfl rfl (.app .here) (H.size _) (H.size _) (H.all1 _) ?_
  refine s_nil ?_
  refine r_list (by kernel_rfl) ?_
  refine s_val (v_move (v := _) rfl) ?_
  refine s_val (v_move (v := .int .i64 _) rfl) ?_
  refine s_build1 (v := .int .i64 _) (e := 3) (m := 1) (by_ := 8) (by kernel_rfl) rfl rfl rfl (fill_scalar rfl) (fun b35 => ?_)
  refine s_push (e := 3) (m := 1) (by_ := 8) (by kernel_rfl) rfl rfl rfl rfl rfl ho.sw.list rfl (all_scalar rfl rfl) (by omega) (fun v36 E36 hE36 => ?_)
  refine s_val (v_assign (v := _) rfl) ?_
  refine s_end ?_
  refine n_bnormal ?_
  refine n_then ?_
  refine r_list (by kernel_rfl) ?_
  refine s_val (v_add rfl rfl (by omega)) ?_
  refine s_val (v_move (v := .int .i64 _) rfl) ?_
  refine s_end ?_
  refine n_round (s := u) ⟨F32, h32, settleP u.ps i, u.xs ++ [i], v36, E36, t.bank, u.idle + 1⟩ ⟨_, ⟨by dsimp only; omega, fun a v h => hF32 a v (hmu a v h), by dsimp only; rw [un_yes hi (of_decide_eq_true h29)]; exact ho.go hF32 hst hco32 hlc32 hpo32 hE36 _ _⟩, live10 rfl rfl rfl rfl rfl rfl rfl rfl rfl rfl⟩ (fun _ hw => hw) (by dsimp only; omega)

end Go.Proofs.Ytmkboljfbmlebaa
