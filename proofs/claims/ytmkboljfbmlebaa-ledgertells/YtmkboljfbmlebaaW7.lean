/- The law LedgerTells comes out true of every house. Conditions: its payments lie in memory that is known, and take no more bytes than memory has. -/
import Derived.Test.YtmkboljfbmlebaaW6
namespace Go.Proofs.Ytmkboljfbmlebaa
open Go.RowKit
set_option linter.unusedSimpArgs false
set_option linter.unusedVariables false
set_option maxRecDepth 100000
attribute [local irreducible] cC sC nC rC qw

theorem gl_ledgers  (w : World) : Gives Try.prog 20 [] w (.bool true) := by
  refine gives_of Try.func20 rfl Try.ntmps20 (by simp) ?_
  refine r_seq (by kernel_rfl) ?_
  refine s_val (v_assign (v := .bool _) rfl) ?_
  refine s_nil ?_
  refine r_seq (by kernel_rfl) ?_
  refine s_call (by kernel_rfl) (fun w hw => g_New w) ?_
  refine s_alloc (z := .agg zeroH.cells) (by kernel_rfl) (fun b1 => ?_)
  refine s_storeA (m := 42) (by kernel_rfl) rfl rfl .here (H.size _) (H.size _) (H.all1 _) ?_
  refine s_nil ?_
  refine r_seq (by kernel_rfl) ?_
  refine s_val (v_field (fo := 0) (by kernel_rfl) rfl) ?_
  refine s_val (v_idxA (len := 4) (size := 2) (k := .i64) (by kernel_rfl) rfl rfl (by decide)) ?_
  refine s_val (v_field (fo := 0) (by kernel_rfl) rfl) ?_
  refine s_store1 (v := .int .i64 _) (by kernel_rfl) rfl rfl .here (H.set_has _ (by decide)) rfl ?_
  refine s_nil ?_
  refine r_seq (by kernel_rfl) ?_
  refine s_val (v_loadA (m := 42) (by kernel_rfl) rfl .here (H.size _)) ?_
  refine s_call (by kernel_rfl) (fun w hw => g_Move _ _ _ _ w) ?_
  refine s_alloc (z := .agg zeroH.cells) (by kernel_rfl) (fun b2 => ?_)
  refine s_storeA (m := 42) (by kernel_rfl) rfl rfl .here (H.size _) (H.size _) (H.all1 _) ?_
  refine s_nil ?_
  refine r_seq (by kernel_rfl) ?_
  refine s_val (v_loadA (m := 42) (by kernel_rfl) rfl (.there .here) (H.size _)) ?_
  refine s_call (by kernel_rfl) (fun w hw => g_Good _ [] w ⟨rfl, .inl rfl⟩) ?_
  refine s_val (v_move (v := .bool _) rfl) ?_
  refine s_want rfl rfl rfl ?_
  refine s_val (v_loadA (m := 42) (by kernel_rfl) rfl (.there .here) (H.size _)) ?_
  refine s_want rfl rfl rfl ?_
  refine s_call (by kernel_rfl) (fun w hw => g_May _ _ _ _ w) ?_
  refine s_val (v_pickT (v := .bool _) rfl rfl rfl) ?_
  refine s_val (v_move (v := .bool _) rfl) ?_
  refine s_want rfl rfl rfl ?_
  refine s_val (v_loadA (m := 42) (by kernel_rfl) rfl (.there .here) (H.size _)) ?_
  refine s_want rfl rfl rfl ?_
  refine s_call (by kernel_rfl) (fun w hw => g_May _ _ _ _ w) ?_
  refine s_want rfl rfl rfl ?_
  refine s_val (v_not rfl) ?_
  refine s_val (v_pickT (v := .bool _) rfl rfl rfl) ?_
  refine s_val (v_move (v := .bool _) rfl) ?_
  refine s_want rfl rfl (congrArg not rfl) ?_
  refine s_val (v_field (fo := 0) (by kernel_rfl) rfl) ?_
  refine s_want rfl rfl (congrArg not rfl) ?_
  refine s_val (v_idxA (len := 4) (size := 2) (k := .i64) (by kernel_rfl) rfl rfl (by decide)) ?_
  refine s_want rfl rfl (congrArg not rfl) ?_
  refine s_val (v_field (fo := 0) (by kernel_rfl) rfl) ?_
  refine s_want rfl rfl (congrArg not rfl) ?_
  refine s_val (v_load1 (v := .int .i64 _) (by kernel_rfl) rfl .here (H.at_has _ (by decide))) ?_
  refine s_want rfl rfl (congrArg not rfl) ?_
  refine s_val (v_eql (k := .i64) rfl rfl) ?_
  refine s_val (v_pickT (v := .bool _) rfl (congrArg not rfl) rfl) ?_
  refine s_val (v_move (v := .bool _) rfl) ?_
  refine s_want rfl rfl rfl ?_
  refine s_val (v_loadA (m := 42) (by kernel_rfl) rfl .here (H.size _)) ?_
  refine s_want rfl rfl rfl ?_
  refine s_call (by kernel_rfl) (fun w hw => g_Net _ _ _ w) ?_
  refine s_want rfl rfl rfl ?_
  refine s_val (v_eql (k := .i64) rfl rfl) ?_
  refine s_val (v_pickT (v := .bool _) rfl rfl rfl) ?_
  refine s_val (v_move (v := .bool _) rfl) ?_
  refine s_want rfl rfl rfl ?_
  refine s_val (v_loadA (m := 42) (by kernel_rfl) rfl .here (H.size _)) ?_
  refine s_want rfl rfl rfl ?_
  refine s_call (by kernel_rfl) (fun w hw => g_Sum _ w) ?_
  refine s_want rfl rfl rfl ?_
  refine s_val (v_eql (k := .i64) rfl rfl) ?_
  refine s_val (v_pickT (v := .bool _) rfl rfl rfl) ?_
  refine s_val (v_assign (v := .bool _) rfl) ?_
  refine s_nil ?_
  refine c_ret ?_
  refine n_done rfl (by decide) (Eq.trans (b := .bool _) rfl (congrArg Value.bool ?_))
  rfl

set_option maxHeartbeats 1000000 in
theorem law_LedgerTells (h : H) (ps : List PayS) (a b n : Int) (w : World) (hp : PaysIn (At w) h.pa h.pl ps) (hb : h.pl * 48 ≤ 281474976710656) (hlc : h.pl ≤ h.pc) : Gives Try.prog 3 [.agg h.cells, I a, I b, I n] w (.bool true) := by
  refine gives_of Try.func3 rfl Try.ntmps3 (by simp) ?_
  refine r_seq (by kernel_rfl) ?_
  refine s_box (v := .agg _) rfl (fun b4 => ?_)
  refine s_val (v_assign (v := .bool _) rfl) ?_
  refine s_nil ?_
  refine r_seq (by kernel_rfl) ?_
  refine s_val (v_loadA (m := 42) (by kernel_rfl) rfl .here (H.size _)) ?_
  refine s_callH (by kernel_rfl) hp (fun w hw => gr_CopyHouse h ps w (hp.at hw) hb) (fun F17 hh17 ps17 hF17 hM17 hp17 => ?_)
  obtain ⟨hps, pa1, pc1, hh⟩ := hM17
  subst hh
  rw [hps] at hp17
  clear hps
  have hp1 := hp.mono hF17
  refine s_alloc (z := .agg zeroH.cells) (by kernel_rfl) (fun b9 => ?_)
  refine s_storeA (m := 42) (by kernel_rfl) rfl rfl .here (H.size _) (H.size _) (H.all1 _) ?_
  refine s_nil ?_
  refine c_seq ?_
  refine d_seq (by kernel_rfl) (by kernel_rfl) (fun w hw => hw.drew) (by kernel_rfl) ?_
  refine q_val (v_loadA (m := 42) (by kernel_rfl) rfl .here (H.size _)) ?_
  refine q_call (by kernel_rfl) (fun w hw => g_Good _ ps w (hp17.at hw)) ?_
  refine q_val (v_loadA (m := 42) (by kernel_rfl) rfl (.there .here) (H.size _)) ?_
  refine q_call (by kernel_rfl) (fun w hw => gr_IsHouse _ ps w (hp1.at hw) hb hlc) ?_
  refine q_val (v_neqB (by kernel_rfl) rfl rfl) ?_
  refine q_val (v_move (v := .bool _) rfl) ?_
  refine q_want rfl rfl (congrArg not (beq_iff_eq.2 (isHouse_eq hp.1).symm)) ?_
  refine q_call (by kernel_rfl) (fun w hw => g_New w) ?_
  refine q_want rfl rfl (congrArg not (beq_iff_eq.2 (isHouse_eq hp.1).symm)) ?_
  refine q_call (by kernel_rfl) (fun w hw => gr_NewHouse w) ?_
  refine q_want rfl rfl (congrArg not (beq_iff_eq.2 (isHouse_eq hp.1).symm)) ?_
  refine q_call (by kernel_rfl) (fun w hw => gr_SameHouse newM [] newM [] w ⟨rfl, .inl rfl⟩ ⟨rfl, .inl rfl⟩ (by decide)) ?_
  refine q_want rfl rfl (congrArg not (beq_iff_eq.2 (isHouse_eq hp.1).symm)) ?_
  refine q_val (v_not rfl) ?_
  refine q_val (v_pickF (v := .bool _) rfl (congrArg not (beq_iff_eq.2 (isHouse_eq hp.1).symm)) rfl) ?_
  refine q_val (v_move (v := .bool _) rfl) ?_
  refine q_want rfl rfl (congrArg not rfl) ?_
  refine q_call (by kernel_rfl) (fun w hw => gl_ledgers w) ?_
  refine q_want rfl rfl (congrArg not rfl) ?_
  refine q_val (v_not rfl) ?_
  refine q_val (v_pickF (v := .bool _) rfl (congrArg not rfl) rfl) ?_
  refine q_nil ?_
  refine c_condFh rfl rfl (congrArg not rfl) ?_
  refine c_skip ?_
  refine n_then ?_
  refine c_seq ?_
  refine r_seq (by kernel_rfl) ?_
  refine s_val (v_field (fo := 40) (by kernel_rfl) rfl) ?_
  refine s_val (v_load1 (v := .slice _ _ _) (by kernel_rfl) rfl (.there .here) (H.at_pays _)) ?_
  refine s_val (v_lenS (T := 27) (m := 6) (by kernel_rfl) rfl rfl) ?_
  refine s_val (v_move (v := .int .i64 _) rfl) ?_
  refine s_nil ?_
  refine c_block ?_
  refine c_loop (σ := Nat) (fun (j : Nat) f => ∃ g, (j ≤ h.pl) ∧ f = (upd (upd (upd (upd (upd (upd (upd (upd g 1 (I a)) 2 (I b)) 3 (I n)) 4 (.pointer (some ⟨b4, 0, none⟩))) 9 (.pointer (some ⟨b9, 0, none⟩))) 34 (.slice h.pa h.pl h.pc)) 35 (I h.pl)) 36 (I j))) (fun (j : Nat) => Has w F17 [(b9, .cells ({ h with pa := pa1, pc := pc1 } : H).cells 29), (b4, .cells h.cells 29)]) (fun (j : Nat) => h.pl - j) 0 ⟨_, Nat.zero_le _, live8 rfl rfl rfl rfl rfl rfl rfl rfl⟩ (fun w hw => hw) ?_
  rintro j _ ⟨g, hjl, rfl⟩
  refine r_seq (by kernel_rfl) ?_
  refine s_val (v_lss (k := .i64) rfl rfl) ?_
  refine s_nil ?_
  refine c_seq ?_
  refine c_cond rfl rfl (fun h37 => ?_) (fun h37 => ?_)
  · have hj0 := of_decide_eq_true h37
    obtain ⟨p, hpk, hd, ht⟩ := hp1.get (k := j) (by omega)
    obtain ⟨bp, op, hpa, hc⟩ := hp1.some (k := j) (by omega)
    refine c_skip ?_
    refine n_then ?_
    refine c_seq ?_
    refine c_block ?_
    refine r_seq (by kernel_rfl) ?_
    refine s_val (v_idxS (size := 6) (k := .i64) (by kernel_rfl) (congrArg (fun a => Value.slice a h.pl h.pc) hpa) rfl ⟨by omega, by omega⟩) ?_
    refine s_val (v_loadNo (cs := p.cells) (m := 6) (by kernel_rfl) rfl rfl (hc j p hpk)) ?_
    refine s_alloc (z := zeroOf Try.prog 36) (by kernel_rfl) (fun b11 => ?_)
    refine s_storeA (m := 6) (by kernel_rfl) rfl rfl .here (by kernel_rfl) rfl (PayS.all1 _) ?_
    refine s_nil ?_
    refine d_seq (by kernel_rfl) (by kernel_rfl) (fun w hw => hw.drew) (by kernel_rfl) ?_
    refine q_val (v_loadA (m := 6) (by kernel_rfl) rfl .here rfl) ?_
    refine q_call (by kernel_rfl) (fun w hw => g_GoodPay _ w) ?_
    refine q_val (v_loadA (m := 6) (by kernel_rfl) rfl .here rfl) ?_
    refine q_call (by kernel_rfl) (fun w hw => gr_IsPay _ w) ?_
    refine q_val (v_neqB (by kernel_rfl) rfl rfl) ?_
    refine q_nil ?_
    refine c_condFh rfl rfl (congrArg not (beq_iff_eq.2 (isPay_eq p).symm)) ?_
    refine c_skip ?_
    refine n_bnormal ?_
    refine n_then ?_
    refine r_list (by kernel_rfl) ?_
    refine s_val (v_add rfl rfl (by omega)) ?_
    refine s_val (v_move (v := .int .i64 _) rfl) ?_
    refine s_end ?_
    refine n_round (j + 1) ⟨_, (by omega), live8 rfl rfl rfl rfl rfl rfl rfl rfl⟩ (fun _ hw => hw.tail) (by omega)
  refine c_exit ?_
  refine n_exit ?_
  refine n_exit ?_
  refine n_bhere ?_
  refine n_then ?_
  refine c_seq ?_
  refine r_seq (by kernel_rfl) ?_
  refine s_val (v_loadA (m := 42) (by kernel_rfl) rfl (.there .here) (H.size _)) ?_
  refine s_call (by kernel_rfl) (fun w hw => gr_IsHouse _ ps w (hp1.at hw) hb hlc) ?_
  refine s_val (v_not rfl) ?_
  refine s_nil ?_
  refine c_condN rfl rfl (fun h48 => ?_) (fun h48 => ?_)
  · refine r_seq (by kernel_rfl) ?_
    refine s_val (v_assign (v := .bool _) rfl) ?_
    refine s_nil ?_
    refine c_ret ?_
    refine n_ret ?_
    refine n_done rfl (by decide) (Eq.trans (b := .bool _) rfl (congrArg Value.bool ?_))
    first | rfl | exact same_of (fun _ _ => ⟨rfl, rfl⟩) (fun _ _ _ _ => ⟨rfl, rfl⟩) rfl rfl
  have G := good_of ((isHouse_eq hp.1).symm.trans h48)
  refine c_skip ?_
  refine n_then ?_
  refine r_seq (by kernel_rfl) ?_
  refine s_val (v_assign (v := .int .i64 _) rfl) ?_
  refine s_nil ?_
  refine c_seq ?_
  refine r_seq (by kernel_rfl) ?_
  refine s_val (v_field (fo := 0) (by kernel_rfl) rfl) ?_
  refine s_val (v_loadN (m := 8) (cs' := accA _ _) (by kernel_rfl) rfl (.there .here) (accA_size _ _) (H.ex_acc _)) ?_
  refine s_val (v_move (v := .int .i64 _) rfl) ?_
  refine s_nil ?_
  refine c_block ?_
  refine c_rounds 5 ?_
  refine r_succ ?_
  refine r_seq (by kernel_rfl) ?_
  refine s_val (v_lss (k := .i64) rfl rfl) ?_
  refine s_nil ?_
  refine c_seq ?_
  refine c_condTh rfl rfl rfl ?_
  refine c_skip ?_
  refine n_then ?_
  refine c_seq ?_
  refine c_block ?_
  refine r_seq (by kernel_rfl) ?_
  refine s_val (v_move (v := .int .i64 _) rfl) ?_
  refine s_val (v_indexV (len := 4) (t := 23) (m := 2) (k := .i64) (cs' := acc2 _ _) (by kernel_rfl) (by kernel_rfl) rfl rfl (by decide) (accA_at _ _ (by decide))) ?_
  refine s_alloc (z := zeroOf Try.prog 23) (by kernel_rfl) (fun b14 => ?_)
  refine s_val (v_assign (v := .int .i64 _) rfl) ?_
  refine s_storeA (m := 2) (by kernel_rfl) rfl rfl .here (by kernel_rfl) rfl (acc2_all _ _) ?_
  refine s_nil ?_
  refine r_seq (by kernel_rfl) ?_
  refine s_val (v_move (v := .int .i64 _) rfl) ?_
  refine s_val (v_field (fo := 0) (by kernel_rfl) rfl) ?_
  refine s_val (v_load1 (v := .int .i64 _) (by kernel_rfl) rfl .here rfl) ?_
  refine s_val (v_addw rfl rfl) ?_
  refine s_val (v_assign (v := .int .i64 _) rfl) ?_
  refine s_nil ?_
  refine c_seq ?_
  refine d_seq (by kernel_rfl) (by kernel_rfl) (fun w hw => hw.drew) (by kernel_rfl) ?_
  refine q_val (v_loadA (m := 42) (by kernel_rfl) rfl (.there .here) (H.size _)) ?_
  refine q_val (v_move (v := .int .i64 _) rfl) ?_
  refine q_call (by kernel_rfl) (fun w hw => g_Left _ _ w) ?_
  refine q_val (v_field (fo := 0) (by kernel_rfl) rfl) ?_
  refine q_val (v_load1 (v := .int .i64 _) (by kernel_rfl) rfl .here rfl) ?_
  refine q_val (v_field (fo := 1) (by kernel_rfl) rfl) ?_
  refine q_val (v_load1 (v := .int .i64 _) (by kernel_rfl) rfl .here rfl) ?_
  refine q_val (v_addw rfl rfl) ?_
  refine q_val (v_neq (k := .i64) rfl rfl) ?_
  refine q_nil ?_
  refine c_condFh rfl rfl (congrArg not (decide_eq_true rfl)) ?_
  refine c_skip ?_
  refine n_then ?_
  refine r_seq (by kernel_rfl) ?_
  refine s_val (v_move (v := .int .i64 _) rfl) ?_
  refine s_nil ?_
  refine c_block ?_
  refine c_rounds 5 ?_
  refine r_succ ?_
  refine r_seq (by kernel_rfl) ?_
  refine s_val (v_lss (k := .i64) rfl rfl) ?_
  refine s_nil ?_
  refine c_seq ?_
  refine c_condTh rfl rfl rfl ?_
  refine c_skip ?_
  refine n_then ?_
  refine c_seq ?_
  refine c_block ?_
  refine r_seq (by kernel_rfl) ?_
  refine s_val (v_move (v := .int .i64 _) rfl) ?_
  refine s_val (v_assign (v := .int .i64 _) rfl) ?_
  refine s_nil ?_
  refine d_seq (by kernel_rfl) (by kernel_rfl) (fun w hw => hw.drew) (by kernel_rfl) ?_
  refine q_val (v_loadA (m := 42) (by kernel_rfl) rfl (.there .here) (H.size _)) ?_
  refine q_val (v_move (v := .int .i64 _) rfl) ?_
  refine q_val (v_move (v := .int .i64 _) rfl) ?_
  refine q_call (by kernel_rfl) (fun w hw => g_Net _ _ _ w) ?_
  refine q_val (v_move (v := .int .i64 _) rfl) ?_
  refine q_val (v_move (v := .int .i64 _) rfl) ?_
  refine q_val (v_field (fo := 8) (by kernel_rfl) rfl) ?_
  refine q_val (v_idxA (len := 4) (size := 4) (k := .i64) (by kernel_rfl) rfl rfl (by decide)) ?_
  refine q_val (v_idxA (len := 4) (size := 1) (k := .i64) (by kernel_rfl) rfl rfl (by decide)) ?_
  refine q_val (v_load1 (v := .int .i64 _) (by kernel_rfl) rfl (.there (.there .here)) (H.at_sent _ (by decide) (by decide))) ?_
  refine q_val (v_move (v := .int .i64 _) rfl) ?_
  refine q_val (v_move (v := .int .i64 _) rfl) ?_
  refine q_val (v_field (fo := 8) (by kernel_rfl) rfl) ?_
  refine q_val (v_idxA (len := 4) (size := 4) (k := .i64) (by kernel_rfl) rfl rfl (by decide)) ?_
  refine q_val (v_idxA (len := 4) (size := 1) (k := .i64) (by kernel_rfl) rfl rfl (by decide)) ?_
  refine q_val (v_load1 (v := .int .i64 _) (by kernel_rfl) rfl (.there (.there .here)) (H.at_sent _ (by decide) (by decide))) ?_
  refine q_val (v_subw rfl rfl) ?_
  refine q_val (v_neq (k := .i64) rfl rfl) ?_
  refine q_nil ?_
  refine c_condFh rfl rfl (congrArg not (decide_eq_true rfl)) ?_
  refine c_skip ?_
  refine n_bnormal ?_
  refine n_then ?_
  refine r_list (by kernel_rfl) ?_
  refine s_val (v_addL (c := 1) rfl rfl (by decide) (by decide)) ?_
  refine s_val (v_move (v := .int .i64 _) rfl) ?_
  refine s_end ?_
  refine n_thenR ?_
  refine r_succ ?_
  refine r_seq (by kernel_rfl) ?_
  refine s_val (v_lss (k := .i64) rfl rfl) ?_
  refine s_nil ?_
  refine c_seq ?_
  refine c_condTh rfl rfl rfl ?_
  refine c_skip ?_
  refine n_then ?_
  refine c_seq ?_
  refine c_block ?_
  refine r_seq (by kernel_rfl) ?_
  refine s_val (v_move (v := .int .i64 _) rfl) ?_
  refine s_val (v_assign (v := .int .i64 _) rfl) ?_
  refine s_nil ?_
  refine d_seq (by kernel_rfl) (by kernel_rfl) (fun w hw => hw.drew) (by kernel_rfl) ?_
  refine q_val (v_loadA (m := 42) (by kernel_rfl) rfl (.there .here) (H.size _)) ?_
  refine q_val (v_move (v := .int .i64 _) rfl) ?_
  refine q_val (v_move (v := .int .i64 _) rfl) ?_
  refine q_call (by kernel_rfl) (fun w hw => g_Net _ _ _ w) ?_
  refine q_val (v_move (v := .int .i64 _) rfl) ?_
  refine q_val (v_move (v := .int .i64 _) rfl) ?_
  refine q_val (v_field (fo := 8) (by kernel_rfl) rfl) ?_
  refine q_val (v_idxA (len := 4) (size := 4) (k := .i64) (by kernel_rfl) rfl rfl (by decide)) ?_
  refine q_val (v_idxA (len := 4) (size := 1) (k := .i64) (by kernel_rfl) rfl rfl (by decide)) ?_
  refine q_val (v_load1 (v := .int .i64 _) (by kernel_rfl) rfl (.there (.there .here)) (H.at_sent _ (by decide) (by decide))) ?_
  refine q_val (v_move (v := .int .i64 _) rfl) ?_
  refine q_val (v_move (v := .int .i64 _) rfl) ?_
  refine q_val (v_field (fo := 8) (by kernel_rfl) rfl) ?_
  refine q_val (v_idxA (len := 4) (size := 4) (k := .i64) (by kernel_rfl) rfl rfl (by decide)) ?_
  refine q_val (v_idxA (len := 4) (size := 1) (k := .i64) (by kernel_rfl) rfl rfl (by decide)) ?_
  refine q_val (v_load1 (v := .int .i64 _) (by kernel_rfl) rfl (.there (.there .here)) (H.at_sent _ (by decide) (by decide))) ?_
  refine q_val (v_subw rfl rfl) ?_
  refine q_val (v_neq (k := .i64) rfl rfl) ?_
  refine q_nil ?_
  refine c_condFh rfl rfl (congrArg not (decide_eq_true rfl)) ?_
  refine c_skip ?_
  refine n_bnormal ?_
  refine n_then ?_
  refine r_list (by kernel_rfl) ?_
  refine s_val (v_addL (c := 2) rfl rfl (by decide) (by decide)) ?_
  refine s_val (v_move (v := .int .i64 _) rfl) ?_
  refine s_end ?_
  refine n_thenR ?_
  refine r_succ ?_
  refine r_seq (by kernel_rfl) ?_
  refine s_val (v_lss (k := .i64) rfl rfl) ?_
  refine s_nil ?_
  refine c_seq ?_
  refine c_condTh rfl rfl rfl ?_
  refine c_skip ?_
  refine n_then ?_
  refine c_seq ?_
  refine c_block ?_
  refine r_seq (by kernel_rfl) ?_
  refine s_val (v_move (v := .int .i64 _) rfl) ?_
  refine s_val (v_assign (v := .int .i64 _) rfl) ?_
  refine s_nil ?_
  refine d_seq (by kernel_rfl) (by kernel_rfl) (fun w hw => hw.drew) (by kernel_rfl) ?_
  refine q_val (v_loadA (m := 42) (by kernel_rfl) rfl (.there .here) (H.size _)) ?_
  refine q_val (v_move (v := .int .i64 _) rfl) ?_
  refine q_val (v_move (v := .int .i64 _) rfl) ?_
  refine q_call (by kernel_rfl) (fun w hw => g_Net _ _ _ w) ?_
  refine q_val (v_move (v := .int .i64 _) rfl) ?_
  refine q_val (v_move (v := .int .i64 _) rfl) ?_
  refine q_val (v_field (fo := 8) (by kernel_rfl) rfl) ?_
  refine q_val (v_idxA (len := 4) (size := 4) (k := .i64) (by kernel_rfl) rfl rfl (by decide)) ?_
  refine q_val (v_idxA (len := 4) (size := 1) (k := .i64) (by kernel_rfl) rfl rfl (by decide)) ?_
  refine q_val (v_load1 (v := .int .i64 _) (by kernel_rfl) rfl (.there (.there .here)) (H.at_sent _ (by decide) (by decide))) ?_
  refine q_val (v_move (v := .int .i64 _) rfl) ?_
  refine q_val (v_move (v := .int .i64 _) rfl) ?_
  refine q_val (v_field (fo := 8) (by kernel_rfl) rfl) ?_
  refine q_val (v_idxA (len := 4) (size := 4) (k := .i64) (by kernel_rfl) rfl rfl (by decide)) ?_
  refine q_val (v_idxA (len := 4) (size := 1) (k := .i64) (by kernel_rfl) rfl rfl (by decide)) ?_
  refine q_val (v_load1 (v := .int .i64 _) (by kernel_rfl) rfl (.there (.there .here)) (H.at_sent _ (by decide) (by decide))) ?_
  refine q_val (v_subw rfl rfl) ?_
  refine q_val (v_neq (k := .i64) rfl rfl) ?_
  refine q_nil ?_
  refine c_condFh rfl rfl (congrArg not (decide_eq_true rfl)) ?_
  refine c_skip ?_
  refine n_bnormal ?_
  refine n_then ?_
  refine r_list (by kernel_rfl) ?_
  refine s_val (v_addL (c := 3) rfl rfl (by decide) (by decide)) ?_
  refine s_val (v_move (v := .int .i64 _) rfl) ?_
  refine s_end ?_
  refine n_thenR ?_
  refine r_succ ?_
  refine r_seq (by kernel_rfl) ?_
  refine s_val (v_lss (k := .i64) rfl rfl) ?_
  refine s_nil ?_
  refine c_seq ?_
  refine c_condTh rfl rfl rfl ?_
  refine c_skip ?_
  refine n_then ?_
  refine c_seq ?_
  refine c_block ?_
  refine r_seq (by kernel_rfl) ?_
  refine s_val (v_move (v := .int .i64 _) rfl) ?_
  refine s_val (v_assign (v := .int .i64 _) rfl) ?_
  refine s_nil ?_
  refine d_seq (by kernel_rfl) (by kernel_rfl) (fun w hw => hw.drew) (by kernel_rfl) ?_
  refine q_val (v_loadA (m := 42) (by kernel_rfl) rfl (.there .here) (H.size _)) ?_
  refine q_val (v_move (v := .int .i64 _) rfl) ?_
  refine q_val (v_move (v := .int .i64 _) rfl) ?_
  refine q_call (by kernel_rfl) (fun w hw => g_Net _ _ _ w) ?_
  refine q_val (v_move (v := .int .i64 _) rfl) ?_
  refine q_val (v_move (v := .int .i64 _) rfl) ?_
  refine q_val (v_field (fo := 8) (by kernel_rfl) rfl) ?_
  refine q_val (v_idxA (len := 4) (size := 4) (k := .i64) (by kernel_rfl) rfl rfl (by decide)) ?_
  refine q_val (v_idxA (len := 4) (size := 1) (k := .i64) (by kernel_rfl) rfl rfl (by decide)) ?_
  refine q_val (v_load1 (v := .int .i64 _) (by kernel_rfl) rfl (.there (.there .here)) (H.at_sent _ (by decide) (by decide))) ?_
  refine q_val (v_move (v := .int .i64 _) rfl) ?_
  refine q_val (v_move (v := .int .i64 _) rfl) ?_
  refine q_val (v_field (fo := 8) (by kernel_rfl) rfl) ?_
  refine q_val (v_idxA (len := 4) (size := 4) (k := .i64) (by kernel_rfl) rfl rfl (by decide)) ?_
  refine q_val (v_idxA (len := 4) (size := 1) (k := .i64) (by kernel_rfl) rfl rfl (by decide)) ?_
  refine q_val (v_load1 (v := .int .i64 _) (by kernel_rfl) rfl (.there (.there .here)) (H.at_sent _ (by decide) (by decide))) ?_
  refine q_val (v_subw rfl rfl) ?_
  refine q_val (v_neq (k := .i64) rfl rfl) ?_
  refine q_nil ?_
  refine c_condFh rfl rfl (congrArg not (decide_eq_true rfl)) ?_
  refine c_skip ?_
  refine n_bnormal ?_
  refine n_then ?_
  refine r_list (by kernel_rfl) ?_
  refine s_val (v_addL (c := 4) rfl rfl (by decide) (by decide)) ?_
  refine s_val (v_move (v := .int .i64 _) rfl) ?_
  refine s_end ?_
  refine n_thenR ?_
  refine r_succ ?_
  refine r_seq (by kernel_rfl) ?_
  refine s_val (v_lss (k := .i64) rfl rfl) ?_
  refine s_nil ?_
  refine c_seq ?_
  refine c_condFh rfl rfl rfl ?_
  refine c_exit ?_
  refine n_exit ?_
  refine n_exit ?_
  refine n_bhere ?_
  refine n_bnormal ?_
  refine n_then ?_
  refine r_list (by kernel_rfl) ?_
  refine s_val (v_addL (c := 1) rfl rfl (by decide) (by decide)) ?_
  refine s_val (v_move (v := .int .i64 _) rfl) ?_
  refine s_end ?_
  refine n_thenR ?_
  refine r_succ ?_
  refine r_seq (by kernel_rfl) ?_
  refine s_val (v_lss (k := .i64) rfl rfl) ?_
  refine s_nil ?_
  refine c_seq ?_
  refine c_condTh rfl rfl rfl ?_
  refine c_skip ?_
  refine n_then ?_
  refine c_seq ?_
  refine c_block ?_
  refine r_seq (by kernel_rfl) ?_
  refine s_val (v_move (v := .int .i64 _) rfl) ?_
  refine s_val (v_indexV (len := 4) (t := 23) (m := 2) (k := .i64) (cs' := acc2 _ _) (by kernel_rfl) (by kernel_rfl) rfl rfl (by decide) (accA_at _ _ (by decide))) ?_
  refine s_alloc (z := zeroOf Try.prog 23) (by kernel_rfl) (fun b14 => ?_)
  refine s_val (v_assign (v := .int .i64 _) rfl) ?_
  refine s_storeA (m := 2) (by kernel_rfl) rfl rfl .here (by kernel_rfl) rfl (acc2_all _ _) ?_
  refine s_nil ?_
  refine r_seq (by kernel_rfl) ?_
  refine s_val (v_move (v := .int .i64 _) rfl) ?_
  refine s_val (v_field (fo := 0) (by kernel_rfl) rfl) ?_
  refine s_val (v_load1 (v := .int .i64 _) (by kernel_rfl) rfl .here rfl) ?_
  refine s_val (v_addw rfl rfl) ?_
  refine s_val (v_assign (v := .int .i64 _) rfl) ?_
  refine s_nil ?_
  refine c_seq ?_
  refine d_seq (by kernel_rfl) (by kernel_rfl) (fun w hw => hw.drew) (by kernel_rfl) ?_
  refine q_val (v_loadA (m := 42) (by kernel_rfl) rfl (.there (.there .here)) (H.size _)) ?_
  refine q_val (v_move (v := .int .i64 _) rfl) ?_
  refine q_call (by kernel_rfl) (fun w hw => g_Left _ _ w) ?_
  refine q_val (v_field (fo := 0) (by kernel_rfl) rfl) ?_
  refine q_val (v_load1 (v := .int .i64 _) (by kernel_rfl) rfl .here rfl) ?_
  refine q_val (v_field (fo := 1) (by kernel_rfl) rfl) ?_
  refine q_val (v_load1 (v := .int .i64 _) (by kernel_rfl) rfl .here rfl) ?_
  refine q_val (v_addw rfl rfl) ?_
  refine q_val (v_neq (k := .i64) rfl rfl) ?_
  refine q_nil ?_
  refine c_condFh rfl rfl (congrArg not (decide_eq_true rfl)) ?_
  refine c_skip ?_
  refine n_then ?_
  refine r_seq (by kernel_rfl) ?_
  refine s_val (v_move (v := .int .i64 _) rfl) ?_
  refine s_nil ?_
  refine c_block ?_
  refine c_rounds 5 ?_
  refine r_succ ?_
  refine r_seq (by kernel_rfl) ?_
  refine s_val (v_lss (k := .i64) rfl rfl) ?_
  refine s_nil ?_
  refine c_seq ?_
  refine c_condTh rfl rfl rfl ?_
  refine c_skip ?_
  refine n_then ?_
  refine c_seq ?_
  refine c_block ?_
  refine r_seq (by kernel_rfl) ?_
  refine s_val (v_move (v := .int .i64 _) rfl) ?_
  refine s_val (v_assign (v := .int .i64 _) rfl) ?_
  refine s_nil ?_
  refine d_seq (by kernel_rfl) (by kernel_rfl) (fun w hw => hw.drew) (by kernel_rfl) ?_
  refine q_val (v_loadA (m := 42) (by kernel_rfl) rfl (.there (.there .here)) (H.size _)) ?_
  refine q_val (v_move (v := .int .i64 _) rfl) ?_
  refine q_val (v_move (v := .int .i64 _) rfl) ?_
  refine q_call (by kernel_rfl) (fun w hw => g_Net _ _ _ w) ?_
  refine q_val (v_move (v := .int .i64 _) rfl) ?_
  refine q_val (v_move (v := .int .i64 _) rfl) ?_
  refine q_val (v_field (fo := 8) (by kernel_rfl) rfl) ?_
  refine q_val (v_idxA (len := 4) (size := 4) (k := .i64) (by kernel_rfl) rfl rfl (by decide)) ?_
  refine q_val (v_idxA (len := 4) (size := 1) (k := .i64) (by kernel_rfl) rfl rfl (by decide)) ?_
  refine q_val (v_load1 (v := .int .i64 _) (by kernel_rfl) rfl (.there (.there (.there .here))) (H.at_sent _ (by decide) (by decide))) ?_
  refine q_val (v_move (v := .int .i64 _) rfl) ?_
  refine q_val (v_move (v := .int .i64 _) rfl) ?_
  refine q_val (v_field (fo := 8) (by kernel_rfl) rfl) ?_
  refine q_val (v_idxA (len := 4) (size := 4) (k := .i64) (by kernel_rfl) rfl rfl (by decide)) ?_
  refine q_val (v_idxA (len := 4) (size := 1) (k := .i64) (by kernel_rfl) rfl rfl (by decide)) ?_
  refine q_val (v_load1 (v := .int .i64 _) (by kernel_rfl) rfl (.there (.there (.there .here))) (H.at_sent _ (by decide) (by decide))) ?_
  refine q_val (v_subw rfl rfl) ?_
  refine q_val (v_neq (k := .i64) rfl rfl) ?_
  refine q_nil ?_
  refine c_condFh rfl rfl (congrArg not (decide_eq_true rfl)) ?_
  refine c_skip ?_
  refine n_bnormal ?_
  refine n_then ?_
  refine r_list (by kernel_rfl) ?_
  refine s_val (v_addL (c := 1) rfl rfl (by decide) (by decide)) ?_
  refine s_val (v_move (v := .int .i64 _) rfl) ?_
  refine s_end ?_
  refine n_thenR ?_
  refine r_succ ?_
  refine r_seq (by kernel_rfl) ?_
  refine s_val (v_lss (k := .i64) rfl rfl) ?_
  refine s_nil ?_
  refine c_seq ?_
  refine c_condTh rfl rfl rfl ?_
  refine c_skip ?_
  refine n_then ?_
  refine c_seq ?_
  refine c_block ?_
  refine r_seq (by kernel_rfl) ?_
  refine s_val (v_move (v := .int .i64 _) rfl) ?_
  refine s_val (v_assign (v := .int .i64 _) rfl) ?_
  refine s_nil ?_
  refine d_seq (by kernel_rfl) (by kernel_rfl) (fun w hw => hw.drew) (by kernel_rfl) ?_
  refine q_val (v_loadA (m := 42) (by kernel_rfl) rfl (.there (.there .here)) (H.size _)) ?_
  refine q_val (v_move (v := .int .i64 _) rfl) ?_
  refine q_val (v_move (v := .int .i64 _) rfl) ?_
  refine q_call (by kernel_rfl) (fun w hw => g_Net _ _ _ w) ?_
  refine q_val (v_move (v := .int .i64 _) rfl) ?_
  refine q_val (v_move (v := .int .i64 _) rfl) ?_
  refine q_val (v_field (fo := 8) (by kernel_rfl) rfl) ?_
  refine q_val (v_idxA (len := 4) (size := 4) (k := .i64) (by kernel_rfl) rfl rfl (by decide)) ?_
  refine q_val (v_idxA (len := 4) (size := 1) (k := .i64) (by kernel_rfl) rfl rfl (by decide)) ?_
  refine q_val (v_load1 (v := .int .i64 _) (by kernel_rfl) rfl (.there (.there (.there .here))) (H.at_sent _ (by decide) (by decide))) ?_
  refine q_val (v_move (v := .int .i64 _) rfl) ?_
  refine q_val (v_move (v := .int .i64 _) rfl) ?_
  refine q_val (v_field (fo := 8) (by kernel_rfl) rfl) ?_
  refine q_val (v_idxA (len := 4) (size := 4) (k := .i64) (by kernel_rfl) rfl rfl (by decide)) ?_
  refine q_val (v_idxA (len := 4) (size := 1) (k := .i64) (by kernel_rfl) rfl rfl (by decide)) ?_
  refine q_val (v_load1 (v := .int .i64 _) (by kernel_rfl) rfl (.there (.there (.there .here))) (H.at_sent _ (by decide) (by decide))) ?_
  refine q_val (v_subw rfl rfl) ?_
  refine q_val (v_neq (k := .i64) rfl rfl) ?_
  refine q_nil ?_
  refine c_condFh rfl rfl (congrArg not (decide_eq_true rfl)) ?_
  refine c_skip ?_
  refine n_bnormal ?_
  refine n_then ?_
  refine r_list (by kernel_rfl) ?_
  refine s_val (v_addL (c := 2) rfl rfl (by decide) (by decide)) ?_
  refine s_val (v_move (v := .int .i64 _) rfl) ?_
  refine s_end ?_
  refine n_thenR ?_
  refine r_succ ?_
  refine r_seq (by kernel_rfl) ?_
  refine s_val (v_lss (k := .i64) rfl rfl) ?_
  refine s_nil ?_
  refine c_seq ?_
  refine c_condTh rfl rfl rfl ?_
  refine c_skip ?_
  refine n_then ?_
  refine c_seq ?_
  refine c_block ?_
  refine r_seq (by kernel_rfl) ?_
  refine s_val (v_move (v := .int .i64 _) rfl) ?_
  refine s_val (v_assign (v := .int .i64 _) rfl) ?_
  refine s_nil ?_
  refine d_seq (by kernel_rfl) (by kernel_rfl) (fun w hw => hw.drew) (by kernel_rfl) ?_
  refine q_val (v_loadA (m := 42) (by kernel_rfl) rfl (.there (.there .here)) (H.size _)) ?_
  refine q_val (v_move (v := .int .i64 _) rfl) ?_
  refine q_val (v_move (v := .int .i64 _) rfl) ?_
  refine q_call (by kernel_rfl) (fun w hw => g_Net _ _ _ w) ?_
  refine q_val (v_move (v := .int .i64 _) rfl) ?_
  refine q_val (v_move (v := .int .i64 _) rfl) ?_
  refine q_val (v_field (fo := 8) (by kernel_rfl) rfl) ?_
  refine q_val (v_idxA (len := 4) (size := 4) (k := .i64) (by kernel_rfl) rfl rfl (by decide)) ?_
  refine q_val (v_idxA (len := 4) (size := 1) (k := .i64) (by kernel_rfl) rfl rfl (by decide)) ?_
  refine q_val (v_load1 (v := .int .i64 _) (by kernel_rfl) rfl (.there (.there (.there .here))) (H.at_sent _ (by decide) (by decide))) ?_
  refine q_val (v_move (v := .int .i64 _) rfl) ?_
  refine q_val (v_move (v := .int .i64 _) rfl) ?_
  refine q_val (v_field (fo := 8) (by kernel_rfl) rfl) ?_
  refine q_val (v_idxA (len := 4) (size := 4) (k := .i64) (by kernel_rfl) rfl rfl (by decide)) ?_
  refine q_val (v_idxA (len := 4) (size := 1) (k := .i64) (by kernel_rfl) rfl rfl (by decide)) ?_
  refine q_val (v_load1 (v := .int .i64 _) (by kernel_rfl) rfl (.there (.there (.there .here))) (H.at_sent _ (by decide) (by decide))) ?_
  refine q_val (v_subw rfl rfl) ?_
  refine q_val (v_neq (k := .i64) rfl rfl) ?_
  refine q_nil ?_
  refine c_condFh rfl rfl (congrArg not (decide_eq_true rfl)) ?_
  refine c_skip ?_
  refine n_bnormal ?_
  refine n_then ?_
  refine r_list (by kernel_rfl) ?_
  refine s_val (v_addL (c := 3) rfl rfl (by decide) (by decide)) ?_
  refine s_val (v_move (v := .int .i64 _) rfl) ?_
  refine s_end ?_
  refine n_thenR ?_
  refine r_succ ?_
  refine r_seq (by kernel_rfl) ?_
  refine s_val (v_lss (k := .i64) rfl rfl) ?_
  refine s_nil ?_
  refine c_seq ?_
  refine c_condTh rfl rfl rfl ?_
  refine c_skip ?_
  refine n_then ?_
  refine c_seq ?_
  refine c_block ?_
  refine r_seq (by kernel_rfl) ?_
  refine s_val (v_move (v := .int .i64 _) rfl) ?_
  refine s_val (v_assign (v := .int .i64 _) rfl) ?_
  refine s_nil ?_
  refine d_seq (by kernel_rfl) (by kernel_rfl) (fun w hw => hw.drew) (by kernel_rfl) ?_
  refine q_val (v_loadA (m := 42) (by kernel_rfl) rfl (.there (.there .here)) (H.size _)) ?_
  refine q_val (v_move (v := .int .i64 _) rfl) ?_
  refine q_val (v_move (v := .int .i64 _) rfl) ?_
  refine q_call (by kernel_rfl) (fun w hw => g_Net _ _ _ w) ?_
  refine q_val (v_move (v := .int .i64 _) rfl) ?_
  refine q_val (v_move (v := .int .i64 _) rfl) ?_
  refine q_val (v_field (fo := 8) (by kernel_rfl) rfl) ?_
  refine q_val (v_idxA (len := 4) (size := 4) (k := .i64) (by kernel_rfl) rfl rfl (by decide)) ?_
  refine q_val (v_idxA (len := 4) (size := 1) (k := .i64) (by kernel_rfl) rfl rfl (by decide)) ?_
  refine q_val (v_load1 (v := .int .i64 _) (by kernel_rfl) rfl (.there (.there (.there .here))) (H.at_sent _ (by decide) (by decide))) ?_
  refine q_val (v_move (v := .int .i64 _) rfl) ?_
  refine q_val (v_move (v := .int .i64 _) rfl) ?_
  refine q_val (v_field (fo := 8) (by kernel_rfl) rfl) ?_
  refine q_val (v_idxA (len := 4) (size := 4) (k := .i64) (by kernel_rfl) rfl rfl (by decide)) ?_
  refine q_val (v_idxA (len := 4) (size := 1) (k := .i64) (by kernel_rfl) rfl rfl (by decide)) ?_
  refine q_val (v_load1 (v := .int .i64 _) (by kernel_rfl) rfl (.there (.there (.there .here))) (H.at_sent _ (by decide) (by decide))) ?_
  refine q_val (v_subw rfl rfl) ?_
  refine q_val (v_neq (k := .i64) rfl rfl) ?_
  refine q_nil ?_
  refine c_condFh rfl rfl (congrArg not (decide_eq_true rfl)) ?_
  refine c_skip ?_
  refine n_bnormal ?_
  refine n_then ?_
  refine r_list (by kernel_rfl) ?_
  refine s_val (v_addL (c := 4) rfl rfl (by decide) (by decide)) ?_
  refine s_val (v_move (v := .int .i64 _) rfl) ?_
  refine s_end ?_
  refine n_thenR ?_
  refine r_succ ?_
  refine r_seq (by kernel_rfl) ?_
  refine s_val (v_lss (k := .i64) rfl rfl) ?_
  refine s_nil ?_
  refine c_seq ?_
  refine c_condFh rfl rfl rfl ?_
  refine c_exit ?_
  refine n_exit ?_
  refine n_exit ?_
  refine n_bhere ?_
  refine n_bnormal ?_
  refine n_then ?_
  refine r_list (by kernel_rfl) ?_
  refine s_val (v_addL (c := 2) rfl rfl (by decide) (by decide)) ?_
  refine s_val (v_move (v := .int .i64 _) rfl) ?_
  refine s_end ?_
  refine n_thenR ?_
  refine r_succ ?_
  refine r_seq (by kernel_rfl) ?_
  refine s_val (v_lss (k := .i64) rfl rfl) ?_
  refine s_nil ?_
  refine c_seq ?_
  refine c_condTh rfl rfl rfl ?_
  refine c_skip ?_
  refine n_then ?_
  refine c_seq ?_
  refine c_block ?_
  refine r_seq (by kernel_rfl) ?_
  refine s_val (v_move (v := .int .i64 _) rfl) ?_
  refine s_val (v_indexV (len := 4) (t := 23) (m := 2) (k := .i64) (cs' := acc2 _ _) (by kernel_rfl) (by kernel_rfl) rfl rfl (by decide) (accA_at _ _ (by decide))) ?_
  refine s_alloc (z := zeroOf Try.prog 23) (by kernel_rfl) (fun b14 => ?_)
  refine s_val (v_assign (v := .int .i64 _) rfl) ?_
  refine s_storeA (m := 2) (by kernel_rfl) rfl rfl .here (by kernel_rfl) rfl (acc2_all _ _) ?_
  refine s_nil ?_
  refine r_seq (by kernel_rfl) ?_
  refine s_val (v_move (v := .int .i64 _) rfl) ?_
  refine s_val (v_field (fo := 0) (by kernel_rfl) rfl) ?_
  refine s_val (v_load1 (v := .int .i64 _) (by kernel_rfl) rfl .here rfl) ?_
  refine s_val (v_addw rfl rfl) ?_
  refine s_val (v_assign (v := .int .i64 _) rfl) ?_
  refine s_nil ?_
  refine c_seq ?_
  refine d_seq (by kernel_rfl) (by kernel_rfl) (fun w hw => hw.drew) (by kernel_rfl) ?_
  refine q_val (v_loadA (m := 42) (by kernel_rfl) rfl (.there (.there (.there .here))) (H.size _)) ?_
  refine q_val (v_move (v := .int .i64 _) rfl) ?_
  refine q_call (by kernel_rfl) (fun w hw => g_Left _ _ w) ?_
  refine q_val (v_field (fo := 0) (by kernel_rfl) rfl) ?_
  refine q_val (v_load1 (v := .int .i64 _) (by kernel_rfl) rfl .here rfl) ?_
  refine q_val (v_field (fo := 1) (by kernel_rfl) rfl) ?_
  refine q_val (v_load1 (v := .int .i64 _) (by kernel_rfl) rfl .here rfl) ?_
  refine q_val (v_addw rfl rfl) ?_
  refine q_val (v_neq (k := .i64) rfl rfl) ?_
  refine q_nil ?_
  refine c_condFh rfl rfl (congrArg not (decide_eq_true rfl)) ?_
  refine c_skip ?_
  refine n_then ?_
  refine r_seq (by kernel_rfl) ?_
  refine s_val (v_move (v := .int .i64 _) rfl) ?_
  refine s_nil ?_
  refine c_block ?_
  refine c_rounds 5 ?_
  refine r_succ ?_
  refine r_seq (by kernel_rfl) ?_
  refine s_val (v_lss (k := .i64) rfl rfl) ?_
  refine s_nil ?_
  refine c_seq ?_
  refine c_condTh rfl rfl rfl ?_
  refine c_skip ?_
  refine n_then ?_
  refine c_seq ?_
  refine c_block ?_
  refine r_seq (by kernel_rfl) ?_
  refine s_val (v_move (v := .int .i64 _) rfl) ?_
  refine s_val (v_assign (v := .int .i64 _) rfl) ?_
  refine s_nil ?_
  refine d_seq (by kernel_rfl) (by kernel_rfl) (fun w hw => hw.drew) (by kernel_rfl) ?_
  refine q_val (v_loadA (m := 42) (by kernel_rfl) rfl (.there (.there (.there .here))) (H.size _)) ?_
  refine q_val (v_move (v := .int .i64 _) rfl) ?_
  refine q_val (v_move (v := .int .i64 _) rfl) ?_
  refine q_call (by kernel_rfl) (fun w hw => g_Net _ _ _ w) ?_
  refine q_val (v_move (v := .int .i64 _) rfl) ?_
  refine q_val (v_move (v := .int .i64 _) rfl) ?_
  refine q_val (v_field (fo := 8) (by kernel_rfl) rfl) ?_
  refine q_val (v_idxA (len := 4) (size := 4) (k := .i64) (by kernel_rfl) rfl rfl (by decide)) ?_
  refine q_val (v_idxA (len := 4) (size := 1) (k := .i64) (by kernel_rfl) rfl rfl (by decide)) ?_
  refine q_val (v_load1 (v := .int .i64 _) (by kernel_rfl) rfl (.there (.there (.there (.there .here)))) (H.at_sent _ (by decide) (by decide))) ?_
  refine q_val (v_move (v := .int .i64 _) rfl) ?_
  refine q_val (v_move (v := .int .i64 _) rfl) ?_
  refine q_val (v_field (fo := 8) (by kernel_rfl) rfl) ?_
  refine q_val (v_idxA (len := 4) (size := 4) (k := .i64) (by kernel_rfl) rfl rfl (by decide)) ?_
  refine q_val (v_idxA (len := 4) (size := 1) (k := .i64) (by kernel_rfl) rfl rfl (by decide)) ?_
  refine q_val (v_load1 (v := .int .i64 _) (by kernel_rfl) rfl (.there (.there (.there (.there .here)))) (H.at_sent _ (by decide) (by decide))) ?_
  refine q_val (v_subw rfl rfl) ?_
  refine q_val (v_neq (k := .i64) rfl rfl) ?_
  refine q_nil ?_
  refine c_condFh rfl rfl (congrArg not (decide_eq_true rfl)) ?_
  refine c_skip ?_
  refine n_bnormal ?_
  refine n_then ?_
  refine r_list (by kernel_rfl) ?_
  refine s_val (v_addL (c := 1) rfl rfl (by decide) (by decide)) ?_
  refine s_val (v_move (v := .int .i64 _) rfl) ?_
  refine s_end ?_
  refine n_thenR ?_
  refine r_succ ?_
  refine r_seq (by kernel_rfl) ?_
  refine s_val (v_lss (k := .i64) rfl rfl) ?_
  refine s_nil ?_
  refine c_seq ?_
  refine c_condTh rfl rfl rfl ?_
  refine c_skip ?_
  refine n_then ?_
  refine c_seq ?_
  refine c_block ?_
  refine r_seq (by kernel_rfl) ?_
  refine s_val (v_move (v := .int .i64 _) rfl) ?_
  refine s_val (v_assign (v := .int .i64 _) rfl) ?_
  refine s_nil ?_
  refine d_seq (by kernel_rfl) (by kernel_rfl) (fun w hw => hw.drew) (by kernel_rfl) ?_
  refine q_val (v_loadA (m := 42) (by kernel_rfl) rfl (.there (.there (.there .here))) (H.size _)) ?_
  refine q_val (v_move (v := .int .i64 _) rfl) ?_
  refine q_val (v_move (v := .int .i64 _) rfl) ?_
  refine q_call (by kernel_rfl) (fun w hw => g_Net _ _ _ w) ?_
  refine q_val (v_move (v := .int .i64 _) rfl) ?_
  refine q_val (v_move (v := .int .i64 _) rfl) ?_
  refine q_val (v_field (fo := 8) (by kernel_rfl) rfl) ?_
  refine q_val (v_idxA (len := 4) (size := 4) (k := .i64) (by kernel_rfl) rfl rfl (by decide)) ?_
  refine q_val (v_idxA (len := 4) (size := 1) (k := .i64) (by kernel_rfl) rfl rfl (by decide)) ?_
  refine q_val (v_load1 (v := .int .i64 _) (by kernel_rfl) rfl (.there (.there (.there (.there .here)))) (H.at_sent _ (by decide) (by decide))) ?_
  refine q_val (v_move (v := .int .i64 _) rfl) ?_
  refine q_val (v_move (v := .int .i64 _) rfl) ?_
  refine q_val (v_field (fo := 8) (by kernel_rfl) rfl) ?_
  refine q_val (v_idxA (len := 4) (size := 4) (k := .i64) (by kernel_rfl) rfl rfl (by decide)) ?_
  refine q_val (v_idxA (len := 4) (size := 1) (k := .i64) (by kernel_rfl) rfl rfl (by decide)) ?_
  refine q_val (v_load1 (v := .int .i64 _) (by kernel_rfl) rfl (.there (.there (.there (.there .here)))) (H.at_sent _ (by decide) (by decide))) ?_
  refine q_val (v_subw rfl rfl) ?_
  refine q_val (v_neq (k := .i64) rfl rfl) ?_
  refine q_nil ?_
  refine c_condFh rfl rfl (congrArg not (decide_eq_true rfl)) ?_
  refine c_skip ?_
  refine n_bnormal ?_
  refine n_then ?_
  refine r_list (by kernel_rfl) ?_
  refine s_val (v_addL (c := 2) rfl rfl (by decide) (by decide)) ?_
  refine s_val (v_move (v := .int .i64 _) rfl) ?_
  refine s_end ?_
  refine n_thenR ?_
  refine r_succ ?_
  refine r_seq (by kernel_rfl) ?_
  refine s_val (v_lss (k := .i64) rfl rfl) ?_
  refine s_nil ?_
  refine c_seq ?_
  refine c_condTh rfl rfl rfl ?_
  refine c_skip ?_
  refine n_then ?_
  refine c_seq ?_
  refine c_block ?_
  refine r_seq (by kernel_rfl) ?_
  refine s_val (v_move (v := .int .i64 _) rfl) ?_
  refine s_val (v_assign (v := .int .i64 _) rfl) ?_
  refine s_nil ?_
  refine d_seq (by kernel_rfl) (by kernel_rfl) (fun w hw => hw.drew) (by kernel_rfl) ?_
  refine q_val (v_loadA (m := 42) (by kernel_rfl) rfl (.there (.there (.there .here))) (H.size _)) ?_
  refine q_val (v_move (v := .int .i64 _) rfl) ?_
  refine q_val (v_move (v := .int .i64 _) rfl) ?_
  refine q_call (by kernel_rfl) (fun w hw => g_Net _ _ _ w) ?_
  refine q_val (v_move (v := .int .i64 _) rfl) ?_
  refine q_val (v_move (v := .int .i64 _) rfl) ?_
  refine q_val (v_field (fo := 8) (by kernel_rfl) rfl) ?_
  refine q_val (v_idxA (len := 4) (size := 4) (k := .i64) (by kernel_rfl) rfl rfl (by decide)) ?_
  refine q_val (v_idxA (len := 4) (size := 1) (k := .i64) (by kernel_rfl) rfl rfl (by decide)) ?_
  refine q_val (v_load1 (v := .int .i64 _) (by kernel_rfl) rfl (.there (.there (.there (.there .here)))) (H.at_sent _ (by decide) (by decide))) ?_
  refine q_val (v_move (v := .int .i64 _) rfl) ?_
  refine q_val (v_move (v := .int .i64 _) rfl) ?_
  refine q_val (v_field (fo := 8) (by kernel_rfl) rfl) ?_
  refine q_val (v_idxA (len := 4) (size := 4) (k := .i64) (by kernel_rfl) rfl rfl (by decide)) ?_
  refine q_val (v_idxA (len := 4) (size := 1) (k := .i64) (by kernel_rfl) rfl rfl (by decide)) ?_
  refine q_val (v_load1 (v := .int .i64 _) (by kernel_rfl) rfl (.there (.there (.there (.there .here)))) (H.at_sent _ (by decide) (by decide))) ?_
  refine q_val (v_subw rfl rfl) ?_
  refine q_val (v_neq (k := .i64) rfl rfl) ?_
  refine q_nil ?_
  refine c_condFh rfl rfl (congrArg not (decide_eq_true rfl)) ?_
  refine c_skip ?_
  refine n_bnormal ?_
  refine n_then ?_
  refine r_list (by kernel_rfl) ?_
  refine s_val (v_addL (c := 3) rfl rfl (by decide) (by decide)) ?_
  refine s_val (v_move (v := .int .i64 _) rfl) ?_
  refine s_end ?_
  refine n_thenR ?_
  refine r_succ ?_
  refine r_seq (by kernel_rfl) ?_
  refine s_val (v_lss (k := .i64) rfl rfl) ?_
  refine s_nil ?_
  refine c_seq ?_
  refine c_condTh rfl rfl rfl ?_
  refine c_skip ?_
  refine n_then ?_
  refine c_seq ?_
  refine c_block ?_
  refine r_seq (by kernel_rfl) ?_
  refine s_val (v_move (v := .int .i64 _) rfl) ?_
  refine s_val (v_assign (v := .int .i64 _) rfl) ?_
  refine s_nil ?_
  refine d_seq (by kernel_rfl) (by kernel_rfl) (fun w hw => hw.drew) (by kernel_rfl) ?_
  refine q_val (v_loadA (m := 42) (by kernel_rfl) rfl (.there (.there (.there .here))) (H.size _)) ?_
  refine q_val (v_move (v := .int .i64 _) rfl) ?_
  refine q_val (v_move (v := .int .i64 _) rfl) ?_
  refine q_call (by kernel_rfl) (fun w hw => g_Net _ _ _ w) ?_
  refine q_val (v_move (v := .int .i64 _) rfl) ?_
  refine q_val (v_move (v := .int .i64 _) rfl) ?_
  refine q_val (v_field (fo := 8) (by kernel_rfl) rfl) ?_
  refine q_val (v_idxA (len := 4) (size := 4) (k := .i64) (by kernel_rfl) rfl rfl (by decide)) ?_
  refine q_val (v_idxA (len := 4) (size := 1) (k := .i64) (by kernel_rfl) rfl rfl (by decide)) ?_
  refine q_val (v_load1 (v := .int .i64 _) (by kernel_rfl) rfl (.there (.there (.there (.there .here)))) (H.at_sent _ (by decide) (by decide))) ?_
  refine q_val (v_move (v := .int .i64 _) rfl) ?_
  refine q_val (v_move (v := .int .i64 _) rfl) ?_
  refine q_val (v_field (fo := 8) (by kernel_rfl) rfl) ?_
  refine q_val (v_idxA (len := 4) (size := 4) (k := .i64) (by kernel_rfl) rfl rfl (by decide)) ?_
  refine q_val (v_idxA (len := 4) (size := 1) (k := .i64) (by kernel_rfl) rfl rfl (by decide)) ?_
  refine q_val (v_load1 (v := .int .i64 _) (by kernel_rfl) rfl (.there (.there (.there (.there .here)))) (H.at_sent _ (by decide) (by decide))) ?_
  refine q_val (v_subw rfl rfl) ?_
  refine q_val (v_neq (k := .i64) rfl rfl) ?_
  refine q_nil ?_
  refine c_condFh rfl rfl (congrArg not (decide_eq_true rfl)) ?_
  refine c_skip ?_
  refine n_bnormal ?_
  refine n_then ?_
  refine r_list (by kernel_rfl) ?_
  refine s_val (v_addL (c := 4) rfl rfl (by decide) (by decide)) ?_
  refine s_val (v_move (v := .int .i64 _) rfl) ?_
  refine s_end ?_
  refine n_thenR ?_
  refine r_succ ?_
  refine r_seq (by kernel_rfl) ?_
  refine s_val (v_lss (k := .i64) rfl rfl) ?_
  refine s_nil ?_
  refine c_seq ?_
  refine c_condFh rfl rfl rfl ?_
  refine c_exit ?_
  refine n_exit ?_
  refine n_exit ?_
  refine n_bhere ?_
  refine n_bnormal ?_
  refine n_then ?_
  refine r_list (by kernel_rfl) ?_
  refine s_val (v_addL (c := 3) rfl rfl (by decide) (by decide)) ?_
  refine s_val (v_move (v := .int .i64 _) rfl) ?_
  refine s_end ?_
  refine n_thenR ?_
  refine r_succ ?_
  refine r_seq (by kernel_rfl) ?_
  refine s_val (v_lss (k := .i64) rfl rfl) ?_
  refine s_nil ?_
  refine c_seq ?_
  refine c_condTh rfl rfl rfl ?_
  refine c_skip ?_
  refine n_then ?_
  refine c_seq ?_
  refine c_block ?_
  refine r_seq (by kernel_rfl) ?_
  refine s_val (v_move (v := .int .i64 _) rfl) ?_
  refine s_val (v_indexV (len := 4) (t := 23) (m := 2) (k := .i64) (cs' := acc2 _ _) (by kernel_rfl) (by kernel_rfl) rfl rfl (by decide) (accA_at _ _ (by decide))) ?_
  refine s_alloc (z := zeroOf Try.prog 23) (by kernel_rfl) (fun b14 => ?_)
  refine s_val (v_assign (v := .int .i64 _) rfl) ?_
  refine s_storeA (m := 2) (by kernel_rfl) rfl rfl .here (by kernel_rfl) rfl (acc2_all _ _) ?_
  refine s_nil ?_
  refine r_seq (by kernel_rfl) ?_
  refine s_val (v_move (v := .int .i64 _) rfl) ?_
  refine s_val (v_field (fo := 0) (by kernel_rfl) rfl) ?_
  refine s_val (v_load1 (v := .int .i64 _) (by kernel_rfl) rfl .here rfl) ?_
  refine s_val (v_addw rfl rfl) ?_
  refine s_val (v_assign (v := .int .i64 _) rfl) ?_
  refine s_nil ?_
  refine c_seq ?_
  refine d_seq (by kernel_rfl) (by kernel_rfl) (fun w hw => hw.drew) (by kernel_rfl) ?_
  refine q_val (v_loadA (m := 42) (by kernel_rfl) rfl (.there (.there (.there (.there .here)))) (H.size _)) ?_
  refine q_val (v_move (v := .int .i64 _) rfl) ?_
  refine q_call (by kernel_rfl) (fun w hw => g_Left _ _ w) ?_
  refine q_val (v_field (fo := 0) (by kernel_rfl) rfl) ?_
  refine q_val (v_load1 (v := .int .i64 _) (by kernel_rfl) rfl .here rfl) ?_
  refine q_val (v_field (fo := 1) (by kernel_rfl) rfl) ?_
  refine q_val (v_load1 (v := .int .i64 _) (by kernel_rfl) rfl .here rfl) ?_
  refine q_val (v_addw rfl rfl) ?_
  refine q_val (v_neq (k := .i64) rfl rfl) ?_
  refine q_nil ?_
  refine c_condFh rfl rfl (congrArg not (decide_eq_true rfl)) ?_
  refine c_skip ?_
  refine n_then ?_
  refine r_seq (by kernel_rfl) ?_
  refine s_val (v_move (v := .int .i64 _) rfl) ?_
  refine s_nil ?_
  refine c_block ?_
  refine c_rounds 5 ?_
  refine r_succ ?_
  refine r_seq (by kernel_rfl) ?_
  refine s_val (v_lss (k := .i64) rfl rfl) ?_
  refine s_nil ?_
  refine c_seq ?_
  refine c_condTh rfl rfl rfl ?_
  refine c_skip ?_
  refine n_then ?_
  refine c_seq ?_
  refine c_block ?_
  refine r_seq (by kernel_rfl) ?_
  refine s_val (v_move (v := .int .i64 _) rfl) ?_
  refine s_val (v_assign (v := .int .i64 _) rfl) ?_
  refine s_nil ?_
  refine d_seq (by kernel_rfl) (by kernel_rfl) (fun w hw => hw.drew) (by kernel_rfl) ?_
  refine q_val (v_loadA (m := 42) (by kernel_rfl) rfl (.there (.there (.there (.there .here)))) (H.size _)) ?_
  refine q_val (v_move (v := .int .i64 _) rfl) ?_
  refine q_val (v_move (v := .int .i64 _) rfl) ?_
  refine q_call (by kernel_rfl) (fun w hw => g_Net _ _ _ w) ?_
  refine q_val (v_move (v := .int .i64 _) rfl) ?_
  refine q_val (v_move (v := .int .i64 _) rfl) ?_
  refine q_val (v_field (fo := 8) (by kernel_rfl) rfl) ?_
  refine q_val (v_idxA (len := 4) (size := 4) (k := .i64) (by kernel_rfl) rfl rfl (by decide)) ?_
  refine q_val (v_idxA (len := 4) (size := 1) (k := .i64) (by kernel_rfl) rfl rfl (by decide)) ?_
  refine q_val (v_load1 (v := .int .i64 _) (by kernel_rfl) rfl (.there (.there (.there (.there (.there .here))))) (H.at_sent _ (by decide) (by decide))) ?_
  refine q_val (v_move (v := .int .i64 _) rfl) ?_
  refine q_val (v_move (v := .int .i64 _) rfl) ?_
  refine q_val (v_field (fo := 8) (by kernel_rfl) rfl) ?_
  refine q_val (v_idxA (len := 4) (size := 4) (k := .i64) (by kernel_rfl) rfl rfl (by decide)) ?_
  refine q_val (v_idxA (len := 4) (size := 1) (k := .i64) (by kernel_rfl) rfl rfl (by decide)) ?_
  refine q_val (v_load1 (v := .int .i64 _) (by kernel_rfl) rfl (.there (.there (.there (.there (.there .here))))) (H.at_sent _ (by decide) (by decide))) ?_
  refine q_val (v_subw rfl rfl) ?_
  refine q_val (v_neq (k := .i64) rfl rfl) ?_
  refine q_nil ?_
  refine c_condFh rfl rfl (congrArg not (decide_eq_true rfl)) ?_
  refine c_skip ?_
  refine n_bnormal ?_
  refine n_then ?_
  refine r_list (by kernel_rfl) ?_
  refine s_val (v_addL (c := 1) rfl rfl (by decide) (by decide)) ?_
  refine s_val (v_move (v := .int .i64 _) rfl) ?_
  refine s_end ?_
  refine n_thenR ?_
  refine r_succ ?_
  refine r_seq (by kernel_rfl) ?_
  refine s_val (v_lss (k := .i64) rfl rfl) ?_
  refine s_nil ?_
  refine c_seq ?_
  refine c_condTh rfl rfl rfl ?_
  refine c_skip ?_
  refine n_then ?_
  refine c_seq ?_
  refine c_block ?_
  refine r_seq (by kernel_rfl) ?_
  refine s_val (v_move (v := .int .i64 _) rfl) ?_
  refine s_val (v_assign (v := .int .i64 _) rfl) ?_
  refine s_nil ?_
  refine d_seq (by kernel_rfl) (by kernel_rfl) (fun w hw => hw.drew) (by kernel_rfl) ?_
  refine q_val (v_loadA (m := 42) (by kernel_rfl) rfl (.there (.there (.there (.there .here)))) (H.size _)) ?_
  refine q_val (v_move (v := .int .i64 _) rfl) ?_
  refine q_val (v_move (v := .int .i64 _) rfl) ?_
  refine q_call (by kernel_rfl) (fun w hw => g_Net _ _ _ w) ?_
  refine q_val (v_move (v := .int .i64 _) rfl) ?_
  refine q_val (v_move (v := .int .i64 _) rfl) ?_
  refine q_val (v_field (fo := 8) (by kernel_rfl) rfl) ?_
  refine q_val (v_idxA (len := 4) (size := 4) (k := .i64) (by kernel_rfl) rfl rfl (by decide)) ?_
  refine q_val (v_idxA (len := 4) (size := 1) (k := .i64) (by kernel_rfl) rfl rfl (by decide)) ?_
  refine q_val (v_load1 (v := .int .i64 _) (by kernel_rfl) rfl (.there (.there (.there (.there (.there .here))))) (H.at_sent _ (by decide) (by decide))) ?_
  refine q_val (v_move (v := .int .i64 _) rfl) ?_
  refine q_val (v_move (v := .int .i64 _) rfl) ?_
  refine q_val (v_field (fo := 8) (by kernel_rfl) rfl) ?_
  refine q_val (v_idxA (len := 4) (size := 4) (k := .i64) (by kernel_rfl) rfl rfl (by decide)) ?_
  refine q_val (v_idxA (len := 4) (size := 1) (k := .i64) (by kernel_rfl) rfl rfl (by decide)) ?_
  refine q_val (v_load1 (v := .int .i64 _) (by kernel_rfl) rfl (.there (.there (.there (.there (.there .here))))) (H.at_sent _ (by decide) (by decide))) ?_
  refine q_val (v_subw rfl rfl) ?_
  refine q_val (v_neq (k := .i64) rfl rfl) ?_
  refine q_nil ?_
  refine c_condFh rfl rfl (congrArg not (decide_eq_true rfl)) ?_
  refine c_skip ?_
  refine n_bnormal ?_
  refine n_then ?_
  refine r_list (by kernel_rfl) ?_
  refine s_val (v_addL (c := 2) rfl rfl (by decide) (by decide)) ?_
  refine s_val (v_move (v := .int .i64 _) rfl) ?_
  refine s_end ?_
  refine n_thenR ?_
  refine r_succ ?_
  refine r_seq (by kernel_rfl) ?_
  refine s_val (v_lss (k := .i64) rfl rfl) ?_
  refine s_nil ?_
  refine c_seq ?_
  refine c_condTh rfl rfl rfl ?_
  refine c_skip ?_
  refine n_then ?_
  refine c_seq ?_
  refine c_block ?_
  refine r_seq (by kernel_rfl) ?_
  refine s_val (v_move (v := .int .i64 _) rfl) ?_
  refine s_val (v_assign (v := .int .i64 _) rfl) ?_
  refine s_nil ?_
  refine d_seq (by kernel_rfl) (by kernel_rfl) (fun w hw => hw.drew) (by kernel_rfl) ?_
  refine q_val (v_loadA (m := 42) (by kernel_rfl) rfl (.there (.there (.there (.there .here)))) (H.size _)) ?_
  refine q_val (v_move (v := .int .i64 _) rfl) ?_
  refine q_val (v_move (v := .int .i64 _) rfl) ?_
  refine q_call (by kernel_rfl) (fun w hw => g_Net _ _ _ w) ?_
  refine q_val (v_move (v := .int .i64 _) rfl) ?_
  refine q_val (v_move (v := .int .i64 _) rfl) ?_
  refine q_val (v_field (fo := 8) (by kernel_rfl) rfl) ?_
  refine q_val (v_idxA (len := 4) (size := 4) (k := .i64) (by kernel_rfl) rfl rfl (by decide)) ?_
  refine q_val (v_idxA (len := 4) (size := 1) (k := .i64) (by kernel_rfl) rfl rfl (by decide)) ?_
  refine q_val (v_load1 (v := .int .i64 _) (by kernel_rfl) rfl (.there (.there (.there (.there (.there .here))))) (H.at_sent _ (by decide) (by decide))) ?_
  refine q_val (v_move (v := .int .i64 _) rfl) ?_
  refine q_val (v_move (v := .int .i64 _) rfl) ?_
  refine q_val (v_field (fo := 8) (by kernel_rfl) rfl) ?_
  refine q_val (v_idxA (len := 4) (size := 4) (k := .i64) (by kernel_rfl) rfl rfl (by decide)) ?_
  refine q_val (v_idxA (len := 4) (size := 1) (k := .i64) (by kernel_rfl) rfl rfl (by decide)) ?_
  refine q_val (v_load1 (v := .int .i64 _) (by kernel_rfl) rfl (.there (.there (.there (.there (.there .here))))) (H.at_sent _ (by decide) (by decide))) ?_
  refine q_val (v_subw rfl rfl) ?_
  refine q_val (v_neq (k := .i64) rfl rfl) ?_
  refine q_nil ?_
  refine c_condFh rfl rfl (congrArg not (decide_eq_true rfl)) ?_
  refine c_skip ?_
  refine n_bnormal ?_
  refine n_then ?_
  refine r_list (by kernel_rfl) ?_
  refine s_val (v_addL (c := 3) rfl rfl (by decide) (by decide)) ?_
  refine s_val (v_move (v := .int .i64 _) rfl) ?_
  refine s_end ?_
  refine n_thenR ?_
  refine r_succ ?_
  refine r_seq (by kernel_rfl) ?_
  refine s_val (v_lss (k := .i64) rfl rfl) ?_
  refine s_nil ?_
  refine c_seq ?_
  refine c_condTh rfl rfl rfl ?_
  refine c_skip ?_
  refine n_then ?_
  refine c_seq ?_
  refine c_block ?_
  refine r_seq (by kernel_rfl) ?_
  refine s_val (v_move (v := .int .i64 _) rfl) ?_
  refine s_val (v_assign (v := .int .i64 _) rfl) ?_
  refine s_nil ?_
  refine d_seq (by kernel_rfl) (by kernel_rfl) (fun w hw => hw.drew) (by kernel_rfl) ?_
  refine q_val (v_loadA (m := 42) (by kernel_rfl) rfl (.there (.there (.there (.there .here)))) (H.size _)) ?_
  refine q_val (v_move (v := .int .i64 _) rfl) ?_
  refine q_val (v_move (v := .int .i64 _) rfl) ?_
  refine q_call (by kernel_rfl) (fun w hw => g_Net _ _ _ w) ?_
  refine q_val (v_move (v := .int .i64 _) rfl) ?_
  refine q_val (v_move (v := .int .i64 _) rfl) ?_
  refine q_val (v_field (fo := 8) (by kernel_rfl) rfl) ?_
  refine q_val (v_idxA (len := 4) (size := 4) (k := .i64) (by kernel_rfl) rfl rfl (by decide)) ?_
  refine q_val (v_idxA (len := 4) (size := 1) (k := .i64) (by kernel_rfl) rfl rfl (by decide)) ?_
  refine q_val (v_load1 (v := .int .i64 _) (by kernel_rfl) rfl (.there (.there (.there (.there (.there .here))))) (H.at_sent _ (by decide) (by decide))) ?_
  refine q_val (v_move (v := .int .i64 _) rfl) ?_
  refine q_val (v_move (v := .int .i64 _) rfl) ?_
  refine q_val (v_field (fo := 8) (by kernel_rfl) rfl) ?_
  refine q_val (v_idxA (len := 4) (size := 4) (k := .i64) (by kernel_rfl) rfl rfl (by decide)) ?_
  refine q_val (v_idxA (len := 4) (size := 1) (k := .i64) (by kernel_rfl) rfl rfl (by decide)) ?_
  refine q_val (v_load1 (v := .int .i64 _) (by kernel_rfl) rfl (.there (.there (.there (.there (.there .here))))) (H.at_sent _ (by decide) (by decide))) ?_
  refine q_val (v_subw rfl rfl) ?_
  refine q_val (v_neq (k := .i64) rfl rfl) ?_
  refine q_nil ?_
  refine c_condFh rfl rfl (congrArg not (decide_eq_true rfl)) ?_
  refine c_skip ?_
  refine n_bnormal ?_
  refine n_then ?_
  refine r_list (by kernel_rfl) ?_
  refine s_val (v_addL (c := 4) rfl rfl (by decide) (by decide)) ?_
  refine s_val (v_move (v := .int .i64 _) rfl) ?_
  refine s_end ?_
  refine n_thenR ?_
  refine r_succ ?_
  refine r_seq (by kernel_rfl) ?_
  refine s_val (v_lss (k := .i64) rfl rfl) ?_
  refine s_nil ?_
  refine c_seq ?_
  refine c_condFh rfl rfl rfl ?_
  refine c_exit ?_
  refine n_exit ?_
  refine n_exit ?_
  refine n_bhere ?_
  refine n_bnormal ?_
  refine n_then ?_
  refine r_list (by kernel_rfl) ?_
  refine s_val (v_addL (c := 4) rfl rfl (by decide) (by decide)) ?_
  refine s_val (v_move (v := .int .i64 _) rfl) ?_
  refine s_end ?_
  refine n_thenR ?_
  refine r_succ ?_
  refine r_seq (by kernel_rfl) ?_
  refine s_val (v_lss (k := .i64) rfl rfl) ?_
  refine s_nil ?_
  refine c_seq ?_
  refine c_condFh rfl rfl rfl ?_
  refine c_exit ?_
  refine n_exit ?_
  refine n_exit ?_
  refine n_bhere ?_
  refine n_then ?_
  refine d_seq (by kernel_rfl) (by kernel_rfl) (fun w hw => hw.drew) (by kernel_rfl) ?_
  refine q_val (v_loadA (m := 42) (by kernel_rfl) rfl (.there (.there (.there (.there .here)))) (H.size _)) ?_
  refine q_call (by kernel_rfl) (fun w hw => g_Sum _ w) ?_
  refine q_val (v_move (v := .int .i64 _) rfl) ?_
  refine q_val (v_eql (k := .i64) rfl rfl) ?_
  refine q_val (v_move (v := .bool _) rfl) ?_
  refine q_want rfl rfl (decide_eq_true rfl) ?_
  refine q_val (v_loadA (m := 42) (by kernel_rfl) rfl (.there (.there (.there (.there .here)))) (H.size _)) ?_
  refine q_want rfl rfl (decide_eq_true rfl) ?_
  refine q_val (v_move (v := .int .i64 _) rfl) ?_
  refine q_want rfl rfl (decide_eq_true rfl) ?_
  refine q_val (v_move (v := .int .i64 _) rfl) ?_
  refine q_want rfl rfl (decide_eq_true rfl) ?_
  refine q_val (v_move (v := .int .i64 _) rfl) ?_
  refine q_want rfl rfl (decide_eq_true rfl) ?_
  refine q_call (by kernel_rfl) (fun w hw => g_May _ _ _ _ w) ?_
  refine q_want rfl rfl (decide_eq_true rfl) ?_
  refine q_val (v_loadA (m := 42) (by kernel_rfl) rfl (.there (.there (.there (.there (.there .here))))) (H.size _)) ?_
  refine q_want rfl rfl (decide_eq_true rfl) ?_
  refine q_val (v_move (v := .int .i64 _) rfl) ?_
  refine q_want rfl rfl (decide_eq_true rfl) ?_
  refine q_val (v_move (v := .int .i64 _) rfl) ?_
  refine q_want rfl rfl (decide_eq_true rfl) ?_
  refine q_val (v_move (v := .int .i64 _) rfl) ?_
  refine q_want rfl rfl (decide_eq_true rfl) ?_
  refine q_call (by kernel_rfl) (fun w hw => gr_MaySend _ _ _ _ w) ?_
  refine q_want rfl rfl (decide_eq_true rfl) ?_
  refine q_val (v_eqlB (by kernel_rfl) rfl rfl) ?_
  refine q_val (v_pickT (v := .bool _) rfl (decide_eq_true rfl) rfl) ?_
  refine q_val (v_move (v := .bool _) rfl) ?_
  refine q_want rfl rfl (beq_iff_eq.2 (may_eq G a b n)) ?_
  refine q_val (v_loadA (m := 42) (by kernel_rfl) rfl (.there (.there (.there (.there .here)))) (H.size _)) ?_
  refine q_want rfl rfl (beq_iff_eq.2 (may_eq G a b n)) ?_
  refine q_val (v_move (v := .int .i64 _) rfl) ?_
  refine q_want rfl rfl (beq_iff_eq.2 (may_eq G a b n)) ?_
  refine q_val (v_move (v := .int .i64 _) rfl) ?_
  refine q_want rfl rfl (beq_iff_eq.2 (may_eq G a b n)) ?_
  refine q_val (v_move (v := .int .i64 _) rfl) ?_
  refine q_want rfl rfl (beq_iff_eq.2 (may_eq G a b n)) ?_
  refine q_call (by kernel_rfl) (fun w hw => g_Move _ _ _ _ w) ?_
  refine q_want rfl rfl (beq_iff_eq.2 (may_eq G a b n)) ?_
  refine q_val (v_loadA (m := 42) (by kernel_rfl) rfl (.there (.there (.there (.there (.there .here))))) (H.size _)) ?_
  refine q_want rfl rfl (beq_iff_eq.2 (may_eq G a b n)) ?_
  refine q_val (v_move (v := .int .i64 _) rfl) ?_
  refine q_want rfl rfl (beq_iff_eq.2 (may_eq G a b n)) ?_
  refine q_val (v_move (v := .int .i64 _) rfl) ?_
  refine q_want rfl rfl (beq_iff_eq.2 (may_eq G a b n)) ?_
  refine q_val (v_move (v := .int .i64 _) rfl) ?_
  refine q_want rfl rfl (beq_iff_eq.2 (may_eq G a b n)) ?_
  refine q_call (by kernel_rfl) (fun w hw => gr_MoveSum _ _ _ _ w) ?_
  refine q_want rfl rfl (beq_iff_eq.2 (may_eq G a b n)) ?_
  refine q_call (by kernel_rfl) (fun w hw => gr_SameHouse _ ps _ ps w (move_pays (hp17.at hw) a b n) (move_pays (hp1.at hw) a b n) (by rw [move_pl]; show h.pl ≤ _; omega)) ?_
  refine q_val (v_pickT (v := .bool _) rfl (beq_iff_eq.2 (may_eq G a b n)) rfl) ?_
  refine q_val (v_move (v := .bool _) rfl) ?_
  refine q_want rfl rfl (same_move h pa1 pc1 ps a b n) ?_
  refine q_val (v_loadA (m := 42) (by kernel_rfl) rfl (.there (.there (.there (.there .here)))) (H.size _)) ?_
  refine q_want rfl rfl (same_move h pa1 pc1 ps a b n) ?_
  refine q_val (v_loadA (m := 42) (by kernel_rfl) rfl (.there (.there (.there (.there (.there .here))))) (H.size _)) ?_
  refine q_want rfl rfl (same_move h pa1 pc1 ps a b n) ?_
  refine q_call (by kernel_rfl) (fun w hw => gr_SameHouse _ ps _ ps w (hp17.at hw) (hp1.at hw) (show h.pl ≤ _ by omega)) ?_
  refine q_val (v_pickT (v := .bool _) rfl (same_move h pa1 pc1 ps a b n) rfl) ?_
  refine q_val (v_assign (v := .bool _) rfl) ?_
  refine q_nil ?_
  refine c_ret ?_
  refine n_done rfl (by decide) (Eq.trans (b := .bool _) rfl (congrArg Value.bool ?_))
  first | rfl | exact same_of (fun _ _ => ⟨rfl, rfl⟩) (fun _ _ _ _ => ⟨rfl, rfl⟩) rfl rfl

end Go.Proofs.Ytmkboljfbmlebaa
