/- What queueRests_holds stands on, part 11: each part says what it proves. No condition beside those that it names. -/
import Derived.Test.YtmkboljfbmlebaaPL410
/- The law LedgerTells comes out true of every house. Conditions: its payments lie in memory that is known, and take no more bytes than memory has. -/
namespace Go.Proofs.Ytmkboljfbmlebaa
open Go.RowKit
set_option linter.unusedSimpArgs false
set_option linter.unusedVariables false
set_option maxRecDepth 100000
attribute [local irreducible] cC sC nC rC qw

theorem gl_ledgers  (w : World) : Gives Try.prog 20 [] w (.bool true) := by
  refine gives_of Try.func20 rfl Try.ntmps20 (by simp) ?_
  refine r_seq (by kernel_rfl) ?_
  refine s_val (v_assign (v := .bool _) rfl) ?_
  refine s_nil ?_
  refine r_seq (by kernel_rfl) ?_
  refine s_call (by kernel_rfl) (fun w hw => g_New w) ?_
  refine s_alloc (z := .agg zeroH.cells) (by kernel_rfl) (fun b1 => ?_)
  refine s_storeA (m := 42) (by kernel_rfl) rfl rfl .here (H.size _) (H.size _) (H.all1 _) ?_
  refine s_nil ?_
  refine r_seq (by kernel_rfl) ?_
  refine s_val (v_field (fo := 0) (by kernel_rfl) rfl) ?_
  refine s_val (v_idxA (len := 4) (size := 2) (k := .i64) (by kernel_rfl) rfl rfl (by decide)) ?_
  refine s_val (v_field (fo := 0) (by kernel_rfl) rfl) ?_
  refine s_store1 (v := .int .i64 _) (by kernel_rfl) rfl rfl .here (H.set_has _ (by decide)) rfl ?_
  refine s_nil ?_
  refine r_seq (by kernel_rfl) ?_
  refine s_val (v_loadA (m := 42) (by kernel_rfl) rfl .here (H.size _)) ?_
  refine s_call (by kernel_rfl) (fun w hw => g_Move _ _ _ _ w) ?_
  refine s_alloc (z := .agg zeroH.cells) (by kernel_rfl) (fun b2 => ?_)
  refine s_storeA (m := 42) (by kernel_rfl) rfl rfl .here (H.size _) (H.size _) (H.all1 _) ?_
  refine s_nil ?_
  refine r_seq (by kernel_rfl) ?_
  refine s_val (v_loadA (m := 42) (by kernel_rfl) rfl (.there .here) (H.size _)) ?_
  refine s_call (by kernel_rfl) (fun w hw => g_Good _ [] w ⟨rfl, .inl rfl⟩) ?_
  refine s_val (v_move (v := .bool _) rfl) ?_
  refine s_want rfl rfl rfl ?_
  refine s_val (v_loadA (m := 42) (by kernel_rfl) rfl (.there .here) (H.size _)) ?_
  refine s_want rfl rfl rfl ?_
  refine s_call (by kernel_rfl) (fun w hw => g_May _ _ _ _ w) ?_
  refine s_val (v_pickT (v := .bool _) rfl rfl rfl) ?_
  refine s_val (v_move (v := .bool _) rfl) ?_
  refine s_want rfl rfl rfl ?_
  refine s_val (v_loadA (m := 42) (by kernel_rfl) rfl (.there .here) (H.size _)) ?_
  refine s_want rfl rfl rfl ?_
  refine s_call (by kernel_rfl) (fun w hw => g_May _ _ _ _ w) ?_
  refine s_want rfl rfl rfl ?_
  refine s_val (v_not rfl) ?_
  refine s_val (v_pickT (v := .bool _) rfl rfl rfl) ?_
  refine s_val (v_move (v := .bool _) rfl) ?_
  refine s_want rfl rfl (congrArg not rfl) ?_
  refine s_val (v_field (fo := 0) (by kernel_rfl) rfl) ?_
  refine s_want rfl rfl (congrArg not rfl) ?_
  refine s_val (v_idxA (len := 4) (size := 2) (k := .i64) (by kernel_rfl) rfl rfl (by decide)) ?_
  refine s_want rfl rfl (congrArg not rfl) ?_
  refine s_val (v_field (fo := 0) (by kernel_rfl) rfl) ?_
  refine s_want rfl rfl (congrArg not rfl) ?_
  refine s_val (v_load1 (v := .int .i64 _) (by kernel_rfl) rfl .here (H.at_has _ (by decide))) ?_
  refine s_want rfl rfl (congrArg not rfl) ?_
  refine s_val (v_eql (k := .i64) rfl rfl) ?_
  refine s_val (v_pickT (v := .bool _) rfl (congrArg not rfl) rfl) ?_
  refine s_val (v_move (v := .bool _) rfl) ?_
  refine s_want rfl rfl rfl ?_
  refine s_val (v_loadA (m := 42) (by kernel_rfl) rfl .here (H.size _)) ?_
  refine s_want rfl rfl rfl ?_
  refine s_call (by kernel_rfl) (fun w hw => g_Net _ _ _ w) ?_
  refine s_want rfl rfl rfl ?_
  refine s_val (v_eql (k := .i64) rfl rfl) ?_
  refine s_val (v_pickT (v := .bool _) rfl rfl rfl) ?_
  refine s_val (v_move (v := .bool _) rfl) ?_
  refine s_want rfl rfl rfl ?_
  refine s_val (v_loadA (m := 42) (by kernel_rfl) rfl .here (H.size _)) ?_
  refine s_want rfl rfl rfl ?_
  refine s_call (by kernel_rfl) (fun w hw => g_Sum _ w) ?_
  refine s_want rfl rfl rfl ?_
  refine s_val (v_eql (k := .i64) rfl rfl) ?_
  refine s_val (v_pickT (v := .bool _) rfl rfl rfl) ?_
  refine s_val (v_assign (v := .bool _) rfl) ?_
  refine s_nil ?_
  refine c_ret ?_
  refine n_done rfl (by decide) (Eq.trans (b := .bool _) rfl (congrArg Value.bool ?_))
  rfl

set_option maxHeartbeats 1000000 in
theorem law_LedgerTells (h : H) (ps : List PayS) (a b n : Int) (w : World) (hp : PaysIn (At w) h.pa h.pl ps) (hb : h.pl * 48 ≤ 281474976710656) (hlc : h.pl ≤ h.pc) : Gives Try.prog 3 [.agg h.cells, I a, I b, I n] w (.bool true) := by
  refine gives_of Try.func3 rfl Try.ntmps3 (by simp) ?_
  refine r_seq (by kernel_rfl) ?_
  refine s_box (v := .agg _) rfl (fun b4 => ?_)
  refine s_val (v_assign (v := .bool _) rfl) ?_
  refine s_nil ?_
  refine r_seq (by kernel_rfl) ?_
  refine s_val (v_loadA (m := 42) (by kernel_rfl) rfl .here (H.size _)) ?_
  refine s_callH (by kernel_rfl) hp (fun w hw => gr_CopyHouse h ps w (hp.at hw) hb) (fun F17 hh17 ps17 hF17 hM17 hp17 => ?_)
  obtain ⟨hps, pa1, pc1, hh⟩ := hM17
  subst hh
  rw [hps] at hp17
  clear hps
  have hp1 := hp.mono hF17
  refine s_alloc (z := .agg zeroH.cells) (by kernel_rfl) (fun b9 => ?_)
  refine s_storeA (m := 42) (by kernel_rfl) rfl rfl .here (H.size _) (H.size _) (H.all1 _) ?_
  refine s_nil ?_
  refine c_seq ?_
  refine d_seq (by kernel_rfl) (by kernel_rfl) (fun w hw => hw.drew) (by kernel_rfl) ?_
  refine q_val (v_loadA (m := 42) (by kernel_rfl) rfl .here (H.size _)) ?_
  refine q_call (by kernel_rfl) (fun w hw => g_Good _ ps w (hp17.at hw)) ?_
  refine q_val (v_loadA (m := 42) (by kernel_rfl) rfl (.there .here) (H.size _)) ?_
  refine q_call (by kernel_rfl) (fun w hw => gr_IsHouse _ ps w (hp1.at hw) hb hlc) ?_
  refine q_val (v_neqB (by kernel_rfl) rfl rfl) ?_
  refine q_val (v_move (v := .bool _) rfl) ?_
  refine q_want rfl rfl (congrArg not (beq_iff_eq.2 (isHouse_eq hp.1).symm)) ?_
  refine q_call (by kernel_rfl) (fun w hw => g_New w) ?_
  refine q_want rfl rfl (congrArg not (beq_iff_eq.2 (isHouse_eq hp.1).symm)) ?_
  refine q_call (by kernel_rfl) (fun w hw => gr_NewHouse w) ?_
  refine q_want rfl rfl (congrArg not (beq_iff_eq.2 (isHouse_eq hp.1).symm)) ?_
  refine q_call (by kernel_rfl) (fun w hw => gr_SameHouse newM [] newM [] w ⟨rfl, .inl rfl⟩ ⟨rfl, .inl rfl⟩ (by decide)) ?_
  refine q_want rfl rfl (congrArg not (beq_iff_eq.2 (isHouse_eq hp.1).symm)) ?_
  refine q_val (v_not rfl) ?_
  refine q_val (v_pickF (v := .bool _) rfl (congrArg not (beq_iff_eq.2 (isHouse_eq hp.1).symm)) rfl) ?_
  refine q_val (v_move (v := .bool _) rfl) ?_
  refine q_want rfl rfl (congrArg not rfl) ?_
  refine q_call (by kernel_rfl) (fun w hw => gl_ledgers w) ?_
  refine q_want rfl rfl (congrArg not rfl) ?_
  refine q_val (v_not rfl) ?_
  refine q_val (v_pickF (v := .bool _) rfl (congrArg not rfl) rfl) ?_
  refine q_nil ?_
  refine c_condFh rfl rfl (congrArg not rfl) ?_
  refine c_skip ?_
  refine n_then ?_
  refine c_seq ?_
  refine r_seq (by kernel_rfl) ?_
  refine s_val (v_field (fo := 40) (by kernel_rfl) rfl) ?_
  refine s_val (v_load1 (v := .slice _ _ _) (by kernel_rfl) rfl (.there .here) (H.at_pays _)) ?_
  refine s_val (v_lenS (T := 27) (m := 6) (by kernel_rfl) rfl rfl) ?_
  refine s_val (v_move (v := .int .i64 _) rfl) ?_
  refine s_nil ?_
  refine c_block ?_
  refine c_loop (σ := Nat) (fun (j : Nat) f => ∃ g, (j ≤ h.pl) ∧ f = (upd (upd (upd (upd (upd (upd (upd (upd g 1 (I a)) 2 (I b)) 3 (I n)) 4 (.pointer (some ⟨b4, 0, none⟩))) 9 (.pointer (some ⟨b9, 0, none⟩))) 34 (.slice h.pa h.pl h.pc)) 35 (I h.pl)) 36 (I j))) (fun (j : Nat) => Has w F17 [(b9, .cells ({ h with pa := pa1, pc := pc1 } : H).cells 29), (b4, .cells h.cells 29)]) (fun (j : Nat) => h.pl - j) 0 ⟨_, Nat.zero_le _, live8 rfl rfl rfl rfl rfl rfl rfl rfl⟩ (fun w hw => hw) ?_
  rintro j _ ⟨g, hjl, rfl⟩
  refine r_seq (by kernel_rfl) ?_
  refine s_val (v_lss (k := .i64) rfl rfl) ?_
  refine s_nil ?_
  refine c_seq ?_
  refine c_cond rfl rfl (fun h37 => ?_) (fun h37 => ?_)
  · have hj0 := of_decide_eq_true h37
    obtain ⟨p, hpk, hd, ht⟩ := hp1.get (k := j) (by omega)
    obtain ⟨bp, op, hpa, hc⟩ := hp1.some (k := j) (by omega)
    refine c_skip ?_
    refine n_then ?_
    refine c_seq ?_
    refine c_block ?_
    refine r_seq (by kernel_rfl) ?_
    refine s_val (v_idxS (size := 6) (k := .i64) (by kernel_rfl) (congrArg (fun a => Value.slice a h.pl h.pc) hpa) rfl ⟨by omega, by omega⟩) ?_
    refine s_val (v_loadNo (cs := p.cells) (m := 6) (by kernel_rfl) rfl rfl (hc j p hpk)) ?_
    refine s_alloc (z := zeroOf Try.prog 36) (by kernel_rfl) (fun b11 => ?_)
    refine s_storeA (m := 6) (by kernel_rfl) rfl rfl .here (by kernel_rfl) rfl (PayS.all1 _) ?_
    refine s_nil ?_
    refine d_seq (by kernel_rfl) (by kernel_rfl) (fun w hw => hw.drew) (by kernel_rfl) ?_
    refine q_val (v_loadA (m := 6) (by kernel_rfl) rfl .here rfl) ?_
    refine q_call (by kernel_rfl) (fun w hw => g_GoodPay _ w) ?_
    refine q_val (v_loadA (m := 6) (by kernel_rfl) rfl .here rfl) ?_
    refine q_call (by kernel_rfl) (fun w hw => gr_IsPay _ w) ?_
    refine q_val (v_neqB (by kernel_rfl) rfl rfl) ?_
    refine q_nil ?_
    refine c_condFh rfl rfl (congrArg not (beq_iff_eq.2 (isPay_eq p).symm)) ?_
    refine c_skip ?_
    refine n_bnormal ?_
    refine n_then ?_
    refine r_list (by kernel_rfl) ?_
    refine s_val (v_add rfl rfl (by omega)) ?_
    refine s_val (v_move (v := .int .i64 _) rfl) ?_
    refine s_end ?_
    refine n_round (j + 1) ⟨_, (by omega), live8 rfl rfl rfl rfl rfl rfl rfl rfl⟩ (fun _ hw => hw.tail) (by omega)
  refine c_exit ?_
  refine n_exit ?_
  refine n_exit ?_
  refine n_bhere ?_
  refine n_then ?_
  refine c_seq ?_
  refine r_seq (by kernel_rfl) ?_
  refine s_val (v_loadA (m := 42) (by kernel_rfl) rfl (.there .here) (H.size _)) ?_
  refine s_call (by kernel_rfl) (fun w hw => gr_IsHouse _ ps w (hp1.at hw) hb hlc) ?_
  refine s_val (v_not rfl) ?_
  refine s_nil ?_
  refine c_condN rfl rfl (fun h48 => ?_) (fun h48 => ?_)
  · refine r_seq (by kernel_rfl) ?_
    refine s_val (v_assign (v := .bool _) rfl) ?_
    refine s_nil ?_
    refine c_ret ?_
    refine n_ret ?_
    refine n_done rfl (by decide) (Eq.trans (b := .bool _) rfl (congrArg Value.bool ?_))
    first | rfl | exact same_of (fun _ _ => ⟨rfl, rfl⟩) (fun _ _ _ _ => ⟨rfl, rfl⟩) rfl rfl
  have G := good_of ((isHouse_eq hp.1).symm.trans h48)
  refine c_skip ?_
  refine n_then ?_
  refine r_seq (by kernel_rfl) ?_
  refine s_val (v_assign (v := .int .i64 _) rfl) ?_
  refine s_nil ?_
  refine c_seq ?_
  refine r_seq (by kernel_rfl) ?_
  refine s_val (v_field (fo := 0) (by kernel_rfl) rfl) ?_
  refine s_val (v_loadN (m := 8) (cs' := accA _ _) (by kernel_rfl) rfl (.there .here) (accA_size _ _) (H.ex_acc _)) ?_
  refine s_val (v_move (v := .int .i64 _) rfl) ?_
  refine s_nil ?_
  refine c_block ?_
  refine c_rounds 5 ?_
  refine r_succ ?_
  refine r_seq (by kernel_rfl) ?_
  refine s_val (v_lss (k := .i64) rfl rfl) ?_
  refine s_nil ?_
  refine c_seq ?_
  refine c_condTh rfl rfl rfl ?_
  refine c_skip ?_
  refine n_then ?_
  refine c_seq ?_
  refine c_block ?_
  refine r_seq (by kernel_rfl) ?_
  refine s_val (v_move (v := .int .i64 _) rfl) ?_
  refine s_val (v_indexV (len := 4) (t := 23) (m := 2) (k := .i64) (cs' := acc2 _ _) (by kernel_rfl) (by kernel_rfl) rfl rfl (by decide) (accA_at _ _ (by decide))) ?_
  refine s_alloc (z := zeroOf Try.prog 23) (by kernel_rfl) (fun b14 => ?_)
  refine s_val (v_assign (v := .int .i64 _) rfl) ?_
  refine s_storeA (m := 2) (by kernel_rfl) rfl rfl .here (by kernel_rfl) rfl (acc2_all _ _) ?_
  refine s_nil ?_
  refine r_seq (by kernel_rfl) ?_
  refine s_val (v_move (v := .int .i64 _) rfl) ?_
  refine s_val (v_field (fo := 0) (by kernel_rfl) rfl) ?_
  refine s_val (v_load1 (v := .int .i64 _) (by kernel_rfl) rfl .here rfl) ?_
  refine s_val (v_addw rfl rfl) ?_
  refine s_val (v_assign (v := .int .i64 _) rfl) ?_
  refine s_nil ?_
  refine c_seq ?_
  refine d_seq (by kernel_rfl) (by kernel_rfl) (fun w hw => hw.drew) (by kernel_rfl) ?_
  refine q_val (v_loadA (m := 42) (by kernel_rfl) rfl (.there .here) (H.size _)) ?_
  refine q_val (v_move (v := .int .i64 _) rfl) ?_
  refine q_call (by kernel_rfl) (fun w hw => g_Left _ _ w) ?_
  refine q_val (v_field (fo := 0) (by kernel_rfl) rfl) ?_
  refine q_val (v_load1 (v := .int .i64 _) (by kernel_rfl) rfl .here rfl) ?_
  refine q_val (v_field (fo := 1) (by kernel_rfl) rfl) ?_
  refine q_val (v_load1 (v := .int .i64 _) (by kernel_rfl) rfl .here rfl) ?_
  refine q_val (v_addw rfl rfl) ?_
  refine q_val (v_neq (k := .i64) rfl rfl) ?_
  refine q_nil ?_
  refine c_condFh rfl rfl (congrArg not (decide_eq_true rfl)) ?_
  refine c_skip ?_
  refine n_then ?_
  refine r_seq (by kernel_rfl) ?_
  refine s_val (v_move (v := .int .i64 _) rfl) ?_
  refine s_nil ?_
  refine c_block ?_
  refine c_rounds 5 ?_
  refine r_succ ?_
  refine r_seq (by kernel_rfl) ?_
  refine s_val (v_lss (k := .i64) rfl rfl) ?_
  refine s_nil ?_
  refine c_seq ?_
  refine c_condTh rfl rfl rfl ?_
  refine c_skip ?_
  refine n_then ?_
  refine c_seq ?_
  refine c_block ?_
  refine r_seq (by kernel_rfl) ?_
  refine s_val (v_move (v := .int .i64 _) rfl) ?_
  refine s_val (v_assign (v := .int .i64 _) rfl) ?_
  refine s_nil ?_
  refine d_seq (by kernel_rfl) (by kernel_rfl) (fun w hw => hw.drew) (by kernel_rfl) ?_
  refine q_val (v_loadA (m := 42) (by kernel_rfl) rfl (.there .here) (H.size _)) ?_
  refine q_val (v_move (v := .int .i64 _) rfl) ?_
  refine q_val (v_move (v := .int .i64 _) rfl) ?_
  refine q_call (by kernel_rfl) (fun w hw => g_Net _ _ _ w) ?_
  refine q_val (v_move (v := .int .i64 _) rfl) ?_
  refine q_val (v_move (v := .int .i64 _) rfl) ?_
  refine q_val (v_field (fo := 8) (by kernel_rfl) rfl) ?_
  refine q_val (v_idxA (len := 4) (size := 4) (k := .i64) (by kernel_rfl) rfl rfl (by decide)) ?_
  refine q_val (v_idxA (len := 4) (size := 1) (k := .i64) (by kernel_rfl) rfl rfl (by decide)) ?_
  refine q_val (v_load1 (v := .int .i64 _) (by kernel_rfl) rfl (.there (.there .here)) (H.at_sent _ (by decide) (by decide))) ?_
  refine q_val (v_move (v := .int .i64 _) rfl) ?_
  refine q_val (v_move (v := .int .i64 _) rfl) ?_
  refine q_val (v_field (fo := 8) (by kernel_rfl) rfl) ?_
  refine q_val (v_idxA (len := 4) (size := 4) (k := .i64) (by kernel_rfl) rfl rfl (by decide)) ?_
  refine q_val (v_idxA (len := 4) (size := 1) (k := .i64) (by kernel_rfl) rfl rfl (by decide)) ?_
  refine q_val (v_load1 (v := .int .i64 _) (by kernel_rfl) rfl (.there (.there .here)) (H.at_sent _ (by decide) (by decide))) ?_
  refine q_val (v_subw rfl rfl) ?_
  refine q_val (v_neq (k := .i64) rfl rfl) ?_
  refine q_nil ?_
  refine c_condFh rfl rfl (congrArg not (decide_eq_true rfl)) ?_
  refine c_skip ?_
  refine n_bnormal ?_
  refine n_then ?_
  refine r_list (by kernel_rfl) ?_
  refine s_val (v_addL (c := 1) rfl rfl (by decide) (by decide)) ?_
  refine s_val (v_move (v := .int .i64 _) rfl) ?_
  refine s_end ?_
  refine n_thenR ?_
  refine r_succ ?_
  refine r_seq (by kernel_rfl) ?_
  refine s_val (v_lss (k := .i64) rfl rfl) ?_
  refine s_nil ?_
  refine c_seq ?_
  refine c_condTh rfl rfl rfl ?_
  refine c_skip ?_
  refine n_then ?_
  refine c_seq ?_
  refine c_block ?_
  refine r_seq (by kernel_rfl) ?_
  refine s_val (v_move (v := .int .i64 _) rfl) ?_
  refine s_val (v_assign (v := .int .i64 _) rfl) ?_
  refine s_nil ?_
  refine d_seq (by kernel_rfl) (by kernel_rfl) (fun w hw => hw.drew) (by kernel_rfl) ?_
  refine q_val (v_loadA (m := 42) (by kernel_rfl) rfl (.there .here) (H.size _)) ?_
  refine q_val (v_move (v := .int .i64 _) rfl) ?_
  refine q_val (v_move (v := .int .i64 _) rfl) ?_
  refine q_call (by kernel_rfl) (fun w hw => g_Net _ _ _ w) ?_
  refine q_val (v_move (v := .int .i64 _) rfl) ?_
  refine q_val (v_move (v := .int .i64 _) rfl) ?_
  refine q_val (v_field (fo := 8) (by kernel_rfl) rfl) ?_
  refine q_val (v_idxA (len := 4) (size := 4) (k := .i64) (by kernel_rfl) rfl rfl (by decide)) ?_
  refine q_val (v_idxA (len := 4) (size := 1) (k := .i64) (by kernel_rfl) rfl rfl (by decide)) ?_
  refine q_val (v_load1 (v := .int .i64 _) (by kernel_rfl) rfl (.there (.there .here)) (H.at_sent _ (by decide) (by decide))) ?_
  refine q_val (v_move (v := .int .i64 _) rfl) ?_
  refine q_val (v_move (v := .int .i64 _) rfl) ?_
  refine q_val (v_field (fo := 8) (by kernel_rfl) rfl) ?_
  refine q_val (v_idxA (len := 4) (size := 4) (k := .i64) (by kernel_rfl) rfl rfl (by decide)) ?_
  refine q_val (v_idxA (len := 4) (size := 1) (k := .i64) (by kernel_rfl) rfl rfl (by decide)) ?_
  refine q_val (v_load1 (v := .int .i64 _) (by kernel_rfl) rfl (.there (.there .here)) (H.at_sent _ (by decide) (by decide))) ?_
  refine q_val (v_subw rfl rfl) ?_
  refine q_val (v_neq (k := .i64) rfl rfl) ?_
  refine q_nil ?_
  refine c_condFh rfl rfl (congrArg not (decide_eq_true rfl)) ?_
  refine c_skip ?_
  refine n_bnormal ?_
  refine n_then ?_
  refine r_list (by kernel_rfl) ?_
  refine s_val (v_addL (c := 2) rfl rfl (by decide) (by decide)) ?_
  refine s_val (v_move (v := .int .i64 _) rfl) ?_
  refine s_end ?_
  refine n_thenR ?_
  refine r_succ ?_
  refine r_seq (by kernel_rfl) ?_
  refine s_val (v_lss (k := .i64) rfl rfl) ?_
  refine s_nil ?_
  refine c_seq ?_
  refine c_condTh rfl rfl rfl ?_
  refine c_skip ?_
  refine n_then ?_
  refine c_seq ?_
  refine c_block ?_
  refine r_seq (by kernel_rfl) ?_
  refine s_val (v_move (v := .int .i64 _) rfl) ?_
  refine s_val (v_assign (v := .int .i64 _) rfl) ?_
  refine s_nil ?_
  refine d_seq (by kernel_rfl) (by kernel_rfl) (fun w hw => hw.drew) (by kernel_rfl) ?_
  refine q_val (v_loadA (m := 42) (by kernel_rfl) rfl (.there .here) (H.size _)) ?_
  refine q_val (v_move (v := .int .i64 _) rfl) ?_
  refine q_val (v_move (v := .int .i64 _) rfl) ?_
  refine q_call (by kernel_rfl) (fun w hw => g_Net _ _ _ w) ?_
  refine q_val (v_move (v := .int .i64 _) rfl) ?_
  refine q_val (v_move (v := .int .i64 _) rfl) ?_
  refine q_val (v_field (fo := 8) (by kernel_rfl) rfl) ?_
  refine q_val (v_idxA (len := 4) (size := 4) (k := .i64) (by kernel_rfl) rfl rfl (by decide)) ?_
  refine q_val (v_idxA (len := 4) (size := 1) (k := .i64) (by kernel_rfl) rfl rfl (by decide)) ?_
  refine q_val (v_load1 (v := .int .i64 _) (by kernel_rfl) rfl (.there (.there .here)) (H.at_sent _ (by decide) (by decide))) ?_
  refine q_val (v_move (v := .int .i64 _) rfl) ?_
  refine q_val (v_move (v := .int .i64 _) rfl) ?_
  refine q_val (v_field (fo := 8) (by kernel_rfl) rfl) ?_
  refine q_val (v_idxA (len := 4) (size := 4) (k := .i64) (by kernel_rfl) rfl rfl (by decide)) ?_
  refine q_val (v_idxA (len := 4) (size := 1) (k := .i64) (by kernel_rfl) rfl rfl (by decide)) ?_
  refine q_val (v_load1 (v := .int .i64 _) (by kernel_rfl) rfl (.there (.there .here)) (H.at_sent _ (by decide) (by decide))) ?_
  refine q_val (v_subw rfl rfl) ?_
  refine q_val (v_neq (k := .i64) rfl rfl) ?_
  refine q_nil ?_
  refine c_condFh rfl rfl (congrArg not (decide_eq_true rfl)) ?_
  refine c_skip ?_
  refine n_bnormal ?_
  refine n_then ?_
  refine r_list (by kernel_rfl) ?_
  refine s_val (v_addL (c := 3) rfl rfl (by decide) (by decide)) ?_
  refine s_val (v_move (v := .int .i64 _) rfl) ?_
  refine s_end ?_
  refine n_thenR ?_
  refine r_succ ?_
  refine r_seq (by kernel_rfl) ?_
  refine s_val (v_lss (k := .i64) rfl rfl) ?_
  refine s_nil ?_
  refine c_seq ?_
  refine c_condTh rfl rfl rfl ?_
  refine c_skip ?_
  refine n_then ?_
  refine c_seq ?_
  refine c_block ?_
  refine r_seq (by kernel_rfl) ?_
  refine s_val (v_move (v := .int .i64 _) rfl) ?_
  refine s_val (v_assign (v := .int .i64 _) rfl) ?_
  refine s_nil ?_
  refine d_seq (by kernel_rfl) (by kernel_rfl) (fun w hw => hw.drew) (by kernel_rfl) ?_
  refine q_val (v_loadA (m := 42) (by kernel_rfl) rfl (.there .here) (H.size _)) ?_
  refine q_val (v_move (v := .int .i64 _) rfl) ?_
  refine q_val (v_move (v := .int .i64 _) rfl) ?_
  refine q_call (by kernel_rfl) (fun w hw => g_Net _ _ _ w) ?_
  refine q_val (v_move (v := .int .i64 _) rfl) ?_
  refine q_val (v_move (v := .int .i64 _) rfl) ?_
  refine q_val (v_field (fo := 8) (by kernel_rfl) rfl) ?_
  refine q_val (v_idxA (len := 4) (size := 4) (k := .i64) (by kernel_rfl) rfl rfl (by decide)) ?_
  refine q_val (v_idxA (len := 4) (size := 1) (k := .i64) (by kernel_rfl) rfl rfl (by decide)) ?_
  refine q_val (v_load1 (v := .int .i64 _) (by kernel_rfl) rfl (.there (.there .here)) (H.at_sent _ (by decide) (by decide))) ?_
  refine q_val (v_move (v := .int .i64 _) rfl) ?_
  refine q_val (v_move (v := .int .i64 _) rfl) ?_
  refine q_val (v_field (fo := 8) (by kernel_rfl) rfl) ?_
  refine q_val (v_idxA (len := 4) (size := 4) (k := .i64) (by kernel_rfl) rfl rfl (by decide)) ?_
  refine q_val (v_idxA (len := 4) (size := 1) (k := .i64) (by kernel_rfl) rfl rfl (by decide)) ?_
  refine q_val (v_load1 (v := .int .i64 _) (by kernel_rfl) rfl (.there (.there .here)) (H.at_sent _ (by decide) (by decide))) ?_
  refine q_val (v_subw rfl rfl) ?_
  refine q_val (v_neq (k := .i64) rfl rfl) ?_
  refine q_nil ?_
  refine c_condFh rfl rfl (congrArg not (decide_eq_true rfl)) ?_
  refine c_skip ?_
  refine n_bnormal ?_
  refine n_then ?_
  refine r_list (by kernel_rfl) ?_
  refine s_val (v_addL (c := 4) rfl rfl (by decide) (by decide)) ?_
  refine s_val (v_move (v := .int .i64 _) rfl) ?_
  refine s_end ?_
  refine n_thenR ?_
  refine r_succ ?_
  refine r_seq (by kernel_rfl) ?_
  refine s_val (v_lss (k := .i64) rfl rfl) ?_
  refine s_nil ?_
  refine c_seq ?_
  refine c_condFh rfl rfl rfl ?_
  refine c_exit ?_
  refine n_exit ?_
  refine n_exit ?_
  refine n_bhere ?_
  refine n_bnormal ?_
  refine n_then ?_
  refine r_list (by kernel_rfl) ?_
  refine s_val (v_addL (c := 1) rfl rfl (by decide) (by decide)) ?_
  refine s_val (v_move (v := .int .i64 _) rfl) ?_
  refine s_end ?_
  refine n_thenR ?_
  refine r_succ ?_
  refine r_seq (by kernel_rfl) ?_
  refine s_val (v_lss (k := .i64) rfl rfl) ?_
  refine s_nil ?_
  refine c_seq ?_
  refine c_condTh rfl rfl rfl ?_
  refine c_skip ?_
  refine n_then ?_
  refine c_seq ?_
  refine c_block ?_
  refine r_seq (by kernel_rfl) ?_
  refine s_val (v_move (v := .int .i64 _) rfl) ?_
  refine s_val (v_indexV (len := 4) (t := 23) (m := 2) (k := .i64) (cs' := acc2 _ _) (by kernel_rfl) (by kernel_rfl) rfl rfl (by decide) (accA_at _ _ (by decide))) ?_
  refine s_alloc (z := zeroOf Try.prog 23) (by kernel_rfl) (fun b14 => ?_)
  refine s_val (v_assign (v := .int .i64 _) rfl) ?_
  refine s_storeA (m := 2) (by kernel_rfl) rfl rfl .here (by kernel_rfl) rfl (acc2_all _ _) ?_
  refine s_nil ?_
  refine r_seq (by kernel_rfl) ?_
  refine s_val (v_move (v := .int .i64 _) rfl) ?_
  refine s_val (v_field (fo := 0) (by kernel_rfl) rfl) ?_
  refine s_val (v_load1 (v := .int .i64 _) (by kernel_rfl) rfl .here rfl) ?_
  refine s_val (v_addw rfl rfl) ?_
  refine s_val (v_assign (v := .int .i64 _) rfl) ?_
  refine s_nil ?_
  refine c_seq ?_
  refine d_seq (by kernel_rfl) (by kernel_rfl) (fun w hw => hw.drew) (by kernel_rfl) ?_
  refine q_val (v_loadA (m := 42) (by kernel_rfl) rfl (.there (.there .here)) (H.size _)) ?_
  refine q_val (v_move (v := .int .i64 _) rfl) ?_
  refine q_call (by kernel_rfl) (fun w hw => g_Left _ _ w) ?_
  refine q_val (v_field (fo := 0) (by kernel_rfl) rfl) ?_
  refine q_val (v_load1 (v := .int .i64 _) (by kernel_rfl) rfl .here rfl) ?_
  refine q_val (v_field (fo := 1) (by kernel_rfl) rfl) ?_
  refine q_val (v_load1 (v := .int .i64 _) (by kernel_rfl) rfl .here rfl) ?_
  refine q_val (v_addw rfl rfl) ?_
  refine q_val (v_neq (k := .i64) rfl rfl) ?_
  refine q_nil ?_
  refine c_condFh rfl rfl (congrArg not (decide_eq_true rfl)) ?_
  refine c_skip ?_
  refine n_then ?_
  refine r_seq (by kernel_rfl) ?_
  refine s_val (v_move (v := .int .i64 _) rfl) ?_
  refine s_nil ?_
  refine c_block ?_
  refine c_rounds 5 ?_
  refine r_succ ?_
  refine r_seq (by kernel_rfl) ?_
  refine s_val (v_lss (k := .i64) rfl rfl) ?_
  refine s_nil ?_
  refine c_seq ?_
  refine c_condTh rfl rfl rfl ?_
  refine c_skip ?_
  refine n_then ?_
  refine c_seq ?_
  refine c_block ?_
  refine r_seq (by kernel_rfl) ?_
  refine s_val (v_move (v := .int .i64 _) rfl) ?_
  refine s_val (v_assign (v := .int .i64 _) rfl) ?_
  refine s_nil ?_
  refine d_seq (by kernel_rfl) (by kernel_rfl) (fun w hw => hw.drew) (by kernel_rfl) ?_
  refine q_val (v_loadA (m := 42) (by kernel_rfl) rfl (.there (.there .here)) (H.size _)) ?_
  refine q_val (v_move (v := .int .i64 _) rfl) ?_
  refine q_val (v_move (v := .int .i64 _) rfl) ?_
  refine q_call (by kernel_rfl) (fun w hw => g_Net _ _ _ w) ?_
  refine q_val (v_move (v := .int .i64 _) rfl) ?_
  refine q_val (v_move (v := .int .i64 _) rfl) ?_
  refine q_val (v_field (fo := 8) (by kernel_rfl) rfl) ?_
  refine q_val (v_idxA (len := 4) (size := 4) (k := .i64) (by kernel_rfl) rfl rfl (by decide)) ?_
  refine q_val (v_idxA (len := 4) (size := 1) (k := .i64) (by kernel_rfl) rfl rfl (by decide)) ?_
  refine q_val (v_load1 (v := .int .i64 _) (by kernel_rfl) rfl (.there (.there (.there .here))) (H.at_sent _ (by decide) (by decide))) ?_
  refine q_val (v_move (v := .int .i64 _) rfl) ?_
  refine q_val (v_move (v := .int .i64 _) rfl) ?_
  refine q_val (v_field (fo := 8) (by kernel_rfl) rfl) ?_
  refine q_val (v_idxA (len := 4) (size := 4) (k := .i64) (by kernel_rfl) rfl rfl (by decide)) ?_
  refine q_val (v_idxA (len := 4) (size := 1) (k := .i64) (by kernel_rfl) rfl rfl (by decide)) ?_
  refine q_val (v_load1 (v := .int .i64 _) (by kernel_rfl) rfl (.there (.there (.there .here))) (H.at_sent _ (by decide) (by decide))) ?_
  refine q_val (v_subw rfl rfl) ?_
  refine q_val (v_neq (k := .i64) rfl rfl) ?_
  refine q_nil ?_
  refine c_condFh rfl rfl (congrArg not (decide_eq_true rfl)) ?_
  refine c_skip ?_
  refine n_bnormal ?_
  refine n_then ?_
  refine r_list (by kernel_rfl) ?_
  refine s_val (v_addL (c := 1) rfl rfl (by decide) (by decide)) ?_
  refine s_val (v_move (v := .int .i64 _) rfl) ?_
  refine s_end ?_
  refine n_thenR ?_
  refine r_succ ?_
  refine r_seq (by kernel_rfl) ?_
  refine s_val (v_lss (k := .i64) rfl rfl) ?_
  refine s_nil ?_
  refine c_seq ?_
  refine c_condTh rfl rfl rfl ?_
  refine c_skip ?_
  refine n_then ?_
  refine c_seq ?_
  refine c_block ?_
  refine r_seq (by kernel_rfl) ?_
  refine s_val (v_move (v := .int .i64 _) rfl) ?_
  refine s_val (v_assign (v := .int .i64 _) rfl) ?_
  refine s_nil ?_
  refine d_seq (by kernel_rfl) (by kernel_rfl) (fun w hw => hw.drew) (by kernel_rfl) ?_
  refine q_val (v_loadA (m := 42) (by kernel_rfl) rfl (.there (.there .here)) (H.size _)) ?_
  refine q_val (v_move (v := .int .i64 _) rfl) ?_
  refine q_val (v_move (v := .int .i64 _) rfl) ?_
  refine q_call (by kernel_rfl) (fun w hw => g_Net _ _ _ w) ?_
  refine q_val (v_move (v := .int .i64 _) rfl) ?_
  refine q_val (v_move (v := .int .i64 _) rfl) ?_
  refine q_val (v_field (fo := 8) (by kernel_rfl) rfl) ?_
  refine q_val (v_idxA (len := 4) (size := 4) (k := .i64) (by kernel_rfl) rfl rfl (by decide)) ?_
  refine q_val (v_idxA (len := 4) (size := 1) (k := .i64) (by kernel_rfl) rfl rfl (by decide)) ?_
  refine q_val (v_load1 (v := .int .i64 _) (by kernel_rfl) rfl (.there (.there (.there .here))) (H.at_sent _ (by decide) (by decide))) ?_
  refine q_val (v_move (v := .int .i64 _) rfl) ?_
  refine q_val (v_move (v := .int .i64 _) rfl) ?_
  refine q_val (v_field (fo := 8) (by kernel_rfl) rfl) ?_
  refine q_val (v_idxA (len := 4) (size := 4) (k := .i64) (by kernel_rfl) rfl rfl (by decide)) ?_
  refine q_val (v_idxA (len := 4) (size := 1) (k := .i64) (by kernel_rfl) rfl rfl (by decide)) ?_
  refine q_val (v_load1 (v := .int .i64 _) (by kernel_rfl) rfl (.there (.there (.there .here))) (H.at_sent _ (by decide) (by decide))) ?_
  refine q_val (v_subw rfl rfl) ?_
  refine q_val (v_neq (k := .i64) rfl rfl) ?_
  refine q_nil ?_
  refine c_condFh rfl rfl (congrArg not (decide_eq_true rfl)) ?_
  refine c_skip ?_
  refine n_bnormal ?_
  refine n_then ?_
  refine r_list (by kernel_rfl) ?_
  refine s_val (v_addL (c := 2) rfl rfl (by decide) (by decide)) ?_
  refine s_val (v_move (v := .int .i64 _) rfl) ?_
  refine s_end ?_
  refine n_thenR ?_
  refine r_succ ?_
  refine r_seq (by kernel_rfl) ?_
  refine s_val (v_lss (k := .i64) rfl rfl) ?_
  refine s_nil ?_
  refine c_seq ?_
  refine c_condTh rfl rfl rfl ?_
  refine c_skip ?_
  refine n_then ?_
  refine c_seq ?_
  refine c_block ?_
  refine r_seq (by kernel_rfl) ?_
  refine s_val (v_move (v := .int .i64 _) rfl) ?_
  refine s_val (v_assign (v := .int .i64 _) rfl) ?_
  refine s_nil ?_
  refine d_seq (by kernel_rfl) (by kernel_rfl) (fun w hw => hw.drew) (by kernel_rfl) ?_
  refine q_val (v_loadA (m := 42) (by kernel_rfl) rfl (.there (.there .here)) (H.size _)) ?_
  refine q_val (v_move (v := .int .i64 _) rfl) ?_
  refine q_val (v_move (v := .int .i64 _) rfl) ?_
  refine q_call (by kernel_rfl) (fun w hw => g_Net _ _ _ w) ?_
  refine q_val (v_move (v := .int .i64 _) rfl) ?_
  refine q_val (v_move (v := .int .i64 _) rfl) ?_
  refine q_val (v_field (fo := 8) (by kernel_rfl) rfl) ?_
  refine q_val (v_idxA (len := 4) (size := 4) (k := .i64) (by kernel_rfl) rfl rfl (by decide)) ?_
  refine q_val (v_idxA (len := 4) (size := 1) (k := .i64) (by kernel_rfl) rfl rfl (by decide)) ?_
  refine q_val (v_load1 (v := .int .i64 _) (by kernel_rfl) rfl (.there (.there (.there .here))) (H.at_sent _ (by decide) (by decide))) ?_
  refine q_val (v_move (v := .int .i64 _) rfl) ?_
  refine q_val (v_move (v := .int .i64 _) rfl) ?_
  refine q_val (v_field (fo := 8) (by kernel_rfl) rfl) ?_
  refine q_val (v_idxA (len := 4) (size := 4) (k := .i64) (by kernel_rfl) rfl rfl (by decide)) ?_
  refine q_val (v_idxA (len := 4) (size := 1) (k := .i64) (by kernel_rfl) rfl rfl (by decide)) ?_
  refine q_val (v_load1 (v := .int .i64 _) (by kernel_rfl) rfl (.there (.there (.there .here))) (H.at_sent _ (by decide) (by decide))) ?_
  refine q_val (v_subw rfl rfl) ?_
  refine q_val (v_neq (k := .i64) rfl rfl) ?_
  refine q_nil ?_
  refine c_condFh rfl rfl (congrArg not (decide_eq_true rfl)) ?_
  refine c_skip ?_
  refine n_bnormal ?_
  refine n_then ?_
  refine r_list (by kernel_rfl) ?_
  refine s_val (v_addL (c := 3) rfl rfl (by decide) (by decide)) ?_
  refine s_val (v_move (v := .int .i64 _) rfl) ?_
  refine s_end ?_
  refine n_thenR ?_
  refine r_succ ?_
  refine r_seq (by kernel_rfl) ?_
  refine s_val (v_lss (k := .i64) rfl rfl) ?_
  refine s_nil ?_
  refine c_seq ?_
  refine c_condTh rfl rfl rfl ?_
  refine c_skip ?_
  refine n_then ?_
  refine c_seq ?_
  refine c_block ?_
  refine r_seq (by kernel_rfl) ?_
  refine s_val (v_move (v := .int .i64 _) rfl) ?_
  refine s_val (v_assign (v := .int .i64 _) rfl) ?_
  refine s_nil ?_
  refine d_seq (by kernel_rfl) (by kernel_rfl) (fun w hw => hw.drew) (by kernel_rfl) ?_
  refine q_val (v_loadA (m := 42) (by kernel_rfl) rfl (.there (.there .here)) (H.size _)) ?_
  refine q_val (v_move (v := .int .i64 _) rfl) ?_
  refine q_val (v_move (v := .int .i64 _) rfl) ?_
  refine q_call (by kernel_rfl) (fun w hw => g_Net _ _ _ w) ?_
  refine q_val (v_move (v := .int .i64 _) rfl) ?_
  refine q_val (v_move (v := .int .i64 _) rfl) ?_
  refine q_val (v_field (fo := 8) (by kernel_rfl) rfl) ?_
  refine q_val (v_idxA (len := 4) (size := 4) (k := .i64) (by kernel_rfl) rfl rfl (by decide)) ?_
  refine q_val (v_idxA (len := 4) (size := 1) (k := .i64) (by kernel_rfl) rfl rfl (by decide)) ?_
  refine q_val (v_load1 (v := .int .i64 _) (by kernel_rfl) rfl (.there (.there (.there .here))) (H.at_sent _ (by decide) (by decide))) ?_
  refine q_val (v_move (v := .int .i64 _) rfl) ?_
  refine q_val (v_move (v := .int .i64 _) rfl) ?_
  refine q_val (v_field (fo := 8) (by kernel_rfl) rfl) ?_
  refine q_val (v_idxA (len := 4) (size := 4) (k := .i64) (by kernel_rfl) rfl rfl (by decide)) ?_
  refine q_val (v_idxA (len := 4) (size := 1) (k := .i64) (by kernel_rfl) rfl rfl (by decide)) ?_
  refine q_val (v_load1 (v := .int .i64 _) (by kernel_rfl) rfl (.there (.there (.there .here))) (H.at_sent _ (by decide) (by decide))) ?_
  refine q_val (v_subw rfl rfl) ?_
  refine q_val (v_neq (k := .i64) rfl rfl) ?_
  refine q_nil ?_
  refine c_condFh rfl rfl (congrArg not (decide_eq_true rfl)) ?_
  refine c_skip ?_
  refine n_bnormal ?_
  refine n_then ?_
  refine r_list (by kernel_rfl) ?_
  refine s_val (v_addL (c := 4) rfl rfl (by decide) (by decide)) ?_
  refine s_val (v_move (v := .int .i64 _) rfl) ?_
  refine s_end ?_
  refine n_thenR ?_
  refine r_succ ?_
  refine r_seq (by kernel_rfl) ?_
  refine s_val (v_lss (k := .i64) rfl rfl) ?_
  refine s_nil ?_
  refine c_seq ?_
  refine c_condFh rfl rfl rfl ?_
  refine c_exit ?_
  refine n_exit ?_
  refine n_exit ?_
  refine n_bhere ?_
  refine n_bnormal ?_
  refine n_then ?_
  refine r_list (by kernel_rfl) ?_
  refine s_val (v_addL (c := 2) rfl rfl (by decide) (by decide)) ?_
  refine s_val (v_move (v := .int .i64 _) rfl) ?_
  refine s_end ?_
  refine n_thenR ?_
  refine r_succ ?_
  refine r_seq (by kernel_rfl) ?_
  refine s_val (v_lss (k := .i64) rfl rfl) ?_
  refine s_nil ?_
  refine c_seq ?_
  refine c_condTh rfl rfl rfl ?_
  refine c_skip ?_
  refine n_then ?_
  refine c_seq ?_
  refine c_block ?_
  refine r_seq (by kernel_rfl) ?_
  refine s_val (v_move (v := .int .i64 _) rfl) ?_
  refine s_val (v_indexV (len := 4) (t := 23) (m := 2) (k := .i64) (cs' := acc2 _ _) (by kernel_rfl) (by kernel_rfl) rfl rfl (by decide) (accA_at _ _ (by decide))) ?_
  refine s_alloc (z := zeroOf Try.prog 23) (by kernel_rfl) (fun b14 => ?_)
  refine s_val (v_assign (v := .int .i64 _) rfl) ?_
  refine s_storeA (m := 2) (by kernel_rfl) rfl rfl .here (by kernel_rfl) rfl (acc2_all _ _) ?_
  refine s_nil ?_
  refine r_seq (by kernel_rfl) ?_
  refine s_val (v_move (v := .int .i64 _) rfl) ?_
  refine s_val (v_field (fo := 0) (by kernel_rfl) rfl) ?_
  refine s_val (v_load1 (v := .int .i64 _) (by kernel_rfl) rfl .here rfl) ?_
  refine s_val (v_addw rfl rfl) ?_
  refine s_val (v_assign (v := .int .i64 _) rfl) ?_
  refine s_nil ?_
  refine c_seq ?_
  refine d_seq (by kernel_rfl) (by kernel_rfl) (fun w hw => hw.drew) (by kernel_rfl) ?_
  refine q_val (v_loadA (m := 42) (by kernel_rfl) rfl (.there (.there (.there .here))) (H.size _)) ?_
  refine q_val (v_move (v := .int .i64 _) rfl) ?_
  refine q_call (by kernel_rfl) (fun w hw => g_Left _ _ w) ?_
  refine q_val (v_field (fo := 0) (by kernel_rfl) rfl) ?_
  refine q_val (v_load1 (v := .int .i64 _) (by kernel_rfl) rfl .here rfl) ?_
  refine q_val (v_field (fo := 1) (by kernel_rfl) rfl) ?_
  refine q_val (v_load1 (v := .int .i64 _) (by kernel_rfl) rfl .here rfl) ?_
  refine q_val (v_addw rfl rfl) ?_
  refine q_val (v_neq (k := .i64) rfl rfl) ?_
  refine q_nil ?_
  refine c_condFh rfl rfl (congrArg not (decide_eq_true rfl)) ?_
  refine c_skip ?_
  refine n_then ?_
  refine r_seq (by kernel_rfl) ?_
  refine s_val (v_move (v := .int .i64 _) rfl) ?_
  refine s_nil ?_
  refine c_block ?_
  refine c_rounds 5 ?_
  refine r_succ ?_
  refine r_seq (by kernel_rfl) ?_
  refine s_val (v_lss (k := .i64) rfl rfl) ?_
  refine s_nil ?_
  refine c_seq ?_
  refine c_condTh rfl rfl rfl ?_
  refine c_skip ?_
  refine n_then ?_
  refine c_seq ?_
  refine c_block ?_
  refine r_seq (by kernel_rfl) ?_
  refine s_val (v_move (v := .int .i64 _) rfl) ?_
  refine s_val (v_assign (v := .int .i64 _) rfl) ?_
  refine s_nil ?_
  refine d_seq (by kernel_rfl) (by kernel_rfl) (fun w hw => hw.drew) (by kernel_rfl) ?_
  refine q_val (v_loadA (m := 42) (by kernel_rfl) rfl (.there (.there (.there .here))) (H.size _)) ?_
  refine q_val (v_move (v := .int .i64 _) rfl) ?_
  refine q_val (v_move (v := .int .i64 _) rfl) ?_
  refine q_call (by kernel_rfl) (fun w hw => g_Net _ _ _ w) ?_
  refine q_val (v_move (v := .int .i64 _) rfl) ?_
  refine q_val (v_move (v := .int .i64 _) rfl) ?_
  refine q_val (v_field (fo := 8) (by kernel_rfl) rfl) ?_
  refine q_val (v_idxA (len := 4) (size := 4) (k := .i64) (by kernel_rfl) rfl rfl (by decide)) ?_
  refine q_val (v_idxA (len := 4) (size := 1) (k := .i64) (by kernel_rfl) rfl rfl (by decide)) ?_
  refine q_val (v_load1 (v := .int .i64 _) (by kernel_rfl) rfl (.there (.there (.there (.there .here)))) (H.at_sent _ (by decide) (by decide))) ?_
  refine q_val (v_move (v := .int .i64 _) rfl) ?_
  refine q_val (v_move (v := .int .i64 _) rfl) ?_
  refine q_val (v_field (fo := 8) (by kernel_rfl) rfl) ?_
  refine q_val (v_idxA (len := 4) (size := 4) (k := .i64) (by kernel_rfl) rfl rfl (by decide)) ?_
  refine q_val (v_idxA (len := 4) (size := 1) (k := .i64) (by kernel_rfl) rfl rfl (by decide)) ?_
  refine q_val (v_load1 (v := .int .i64 _) (by kernel_rfl) rfl (.there (.there (.there (.there .here)))) (H.at_sent _ (by decide) (by decide))) ?_
  refine q_val (v_subw rfl rfl) ?_
  refine q_val (v_neq (k := .i64) rfl rfl) ?_
  refine q_nil ?_
  refine c_condFh rfl rfl (congrArg not (decide_eq_true rfl)) ?_
  refine c_skip ?_
  refine n_bnormal ?_
  refine n_then ?_
  refine r_list (by kernel_rfl) ?_
  refine s_val (v_addL (c := 1) rfl rfl (by decide) (by decide)) ?_
  refine s_val (v_move (v := .int .i64 _) rfl) ?_
  refine s_end ?_
  refine n_thenR ?_
  refine r_succ ?_
  refine r_seq (by kernel_rfl) ?_
  refine s_val (v_lss (k := .i64) rfl rfl) ?_
  refine s_nil ?_
  refine c_seq ?_
  refine c_condTh rfl rfl rfl ?_
  refine c_skip ?_
  refine n_then ?_
  refine c_seq ?_
  refine c_block ?_
  refine r_seq (by kernel_rfl) ?_
  refine s_val (v_move (v := .int .i64 _) rfl) ?_
  refine s_val (v_assign (v := .int .i64 _) rfl) ?_
  refine s_nil ?_
  refine d_seq (by kernel_rfl) (by kernel_rfl) (fun w hw => hw.drew) (by kernel_rfl) ?_
  refine q_val (v_loadA (m := 42) (by kernel_rfl) rfl (.there (.there (.there .here))) (H.size _)) ?_
  refine q_val (v_move (v := .int .i64 _) rfl) ?_
  refine q_val (v_move (v := .int .i64 _) rfl) ?_
  refine q_call (by kernel_rfl) (fun w hw => g_Net _ _ _ w) ?_
  refine q_val (v_move (v := .int .i64 _) rfl) ?_
  refine q_val (v_move (v := .int .i64 _) rfl) ?_
  refine q_val (v_field (fo := 8) (by kernel_rfl) rfl) ?_
  refine q_val (v_idxA (len := 4) (size := 4) (k := .i64) (by kernel_rfl) rfl rfl (by decide)) ?_
  refine q_val (v_idxA (len := 4) (size := 1) (k := .i64) (by kernel_rfl) rfl rfl (by decide)) ?_
  refine q_val (v_load1 (v := .int .i64 _) (by kernel_rfl) rfl (.there (.there (.there (.there .here)))) (H.at_sent _ (by decide) (by decide))) ?_
  refine q_val (v_move (v := .int .i64 _) rfl) ?_
  refine q_val (v_move (v := .int .i64 _) rfl) ?_
  refine q_val (v_field (fo := 8) (by kernel_rfl) rfl) ?_
  refine q_val (v_idxA (len := 4) (size := 4) (k := .i64) (by kernel_rfl) rfl rfl (by decide)) ?_
  refine q_val (v_idxA (len := 4) (size := 1) (k := .i64) (by kernel_rfl) rfl rfl (by decide)) ?_
  refine q_val (v_load1 (v := .int .i64 _) (by kernel_rfl) rfl (.there (.there (.there (.there .here)))) (H.at_sent _ (by decide) (by decide))) ?_
  refine q_val (v_subw rfl rfl) ?_
  refine q_val (v_neq (k := .i64) rfl rfl) ?_
  refine q_nil ?_
  refine c_condFh rfl rfl (congrArg not (decide_eq_true rfl)) ?_
  refine c_skip ?_
  refine n_bnormal ?_
  refine n_then ?_
  refine r_list (by kernel_rfl) ?_
  refine s_val (v_addL (c := 2) rfl rfl (by decide) (by decide)) ?_
  refine s_val (v_move (v := .int .i64 _) rfl) ?_
  refine s_end ?_
  refine n_thenR ?_
  refine r_succ ?_
  refine r_seq (by kernel_rfl) ?_
  refine s_val (v_lss (k := .i64) rfl rfl) ?_
  refine s_nil ?_
  refine c_seq ?_
  refine c_condTh rfl rfl rfl ?_
  refine c_skip ?_
  refine n_then ?_
  refine c_seq ?_
  refine c_block ?_
  refine r_seq (by kernel_rfl) ?_
  refine s_val (v_move (v := .int .i64 _) rfl) ?_
  refine s_val (v_assign (v := .int .i64 _) rfl) ?_
  refine s_nil ?_
  refine d_seq (by kernel_rfl) (by kernel_rfl) (fun w hw => hw.drew) (by kernel_rfl) ?_
  refine q_val (v_loadA (m := 42) (by kernel_rfl) rfl (.there (.there (.there .here))) (H.size _)) ?_
  refine q_val (v_move (v := .int .i64 _) rfl) ?_
  refine q_val (v_move (v := .int .i64 _) rfl) ?_
  refine q_call (by kernel_rfl) (fun w hw => g_Net _ _ _ w) ?_
  refine q_val (v_move (v := .int .i64 _) rfl) ?_
  refine q_val (v_move (v := .int .i64 _) rfl) ?_
  refine q_val (v_field (fo := 8) (by kernel_rfl) rfl) ?_
  refine q_val (v_idxA (len := 4) (size := 4) (k := .i64) (by kernel_rfl) rfl rfl (by decide)) ?_
  refine q_val (v_idxA (len := 4) (size := 1) (k := .i64) (by kernel_rfl) rfl rfl (by decide)) ?_
  refine q_val (v_load1 (v := .int .i64 _) (by kernel_rfl) rfl (.there (.there (.there (.there .here)))) (H.at_sent _ (by decide) (by decide))) ?_
  refine q_val (v_move (v := .int .i64 _) rfl) ?_
  refine q_val (v_move (v := .int .i64 _) rfl) ?_
  refine q_val (v_field (fo := 8) (by kernel_rfl) rfl) ?_
  refine q_val (v_idxA (len := 4) (size := 4) (k := .i64) (by kernel_rfl) rfl rfl (by decide)) ?_
  refine q_val (v_idxA (len := 4) (size := 1) (k := .i64) (by kernel_rfl) rfl rfl (by decide)) ?_
  refine q_val (v_load1 (v := .int .i64 _) (by kernel_rfl) rfl (.there (.there (.there (.there .here)))) (H.at_sent _ (by decide) (by decide))) ?_
  refine q_val (v_subw rfl rfl) ?_
  refine q_val (v_neq (k := .i64) rfl rfl) ?_
  refine q_nil ?_
  refine c_condFh rfl rfl (congrArg not (decide_eq_true rfl)) ?_
  refine c_skip ?_
  refine n_bnormal ?_
  refine n_then ?_
  refine r_list (by kernel_rfl) ?_
  refine s_val (v_addL (c := 3) rfl rfl (by decide) (by decide)) ?_
  refine s_val (v_move (v := .int .i64 _) rfl) ?_
  refine s_end ?_
  refine n_thenR ?_
  refine r_succ ?_
  refine r_seq (by kernel_rfl) ?_
  refine s_val (v_lss (k := .i64) rfl rfl) ?_
  refine s_nil ?_
  refine c_seq ?_
  refine c_condTh rfl rfl rfl ?_
  refine c_skip ?_
  refine n_then ?_
  refine c_seq ?_
  refine c_block ?_
  refine r_seq (by kernel_rfl) ?_
  refine s_val (v_move (v := .int .i64 _) rfl) ?_
  refine s_val (v_assign (v := .int .i64 _) rfl) ?_
  refine s_nil ?_
  refine d_seq (by kernel_rfl) (by kernel_rfl) (fun w hw => hw.drew) (by kernel_rfl) ?_
  refine q_val (v_loadA (m := 42) (by kernel_rfl) rfl (.there (.there (.there .here))) (H.size _)) ?_
  refine q_val (v_move (v := .int .i64 _) rfl) ?_
  refine q_val (v_move (v := .int .i64 _) rfl) ?_
  refine q_call (by kernel_rfl) (fun w hw => g_Net _ _ _ w) ?_
  refine q_val (v_move (v := .int .i64 _) rfl) ?_
  refine q_val (v_move (v := .int .i64 _) rfl) ?_
  refine q_val (v_field (fo := 8) (by kernel_rfl) rfl) ?_
  refine q_val (v_idxA (len := 4) (size := 4) (k := .i64) (by kernel_rfl) rfl rfl (by decide)) ?_
  refine q_val (v_idxA (len := 4) (size := 1) (k := .i64) (by kernel_rfl) rfl rfl (by decide)) ?_
  refine q_val (v_load1 (v := .int .i64 _) (by kernel_rfl) rfl (.there (.there (.there (.there .here)))) (H.at_sent _ (by decide) (by decide))) ?_
  refine q_val (v_move (v := .int .i64 _) rfl) ?_
  refine q_val (v_move (v := .int .i64 _) rfl) ?_
  refine q_val (v_field (fo := 8) (by kernel_rfl) rfl) ?_
  refine q_val (v_idxA (len := 4) (size := 4) (k := .i64) (by kernel_rfl) rfl rfl (by decide)) ?_
  refine q_val (v_idxA (len := 4) (size := 1) (k := .i64) (by kernel_rfl) rfl rfl (by decide)) ?_
  refine q_val (v_load1 (v := .int .i64 _) (by kernel_rfl) rfl (.there (.there (.there (.there .here)))) (H.at_sent _ (by decide) (by decide))) ?_
  refine q_val (v_subw rfl rfl) ?_
  refine q_val (v_neq (k := .i64) rfl rfl) ?_
  refine q_nil ?_
  refine c_condFh rfl rfl (congrArg not (decide_eq_true rfl)) ?_
  refine c_skip ?_
  refine n_bnormal ?_
  refine n_then ?_
  refine r_list (by kernel_rfl) ?_
  refine s_val (v_addL (c := 4) rfl rfl (by decide) (by decide)) ?_
  refine s_val (v_move (v := .int .i64 _) rfl) ?_
  refine s_end ?_
  refine n_thenR ?_
  refine r_succ ?_
  refine r_seq (by kernel_rfl) ?_
  refine s_val (v_lss (k := .i64) rfl rfl) ?_
  refine s_nil ?_
  refine c_seq ?_
  refine c_condFh rfl rfl rfl ?_
  refine c_exit ?_
  refine n_exit ?_
  refine n_exit ?_
  refine n_bhere ?_
  refine n_bnormal ?_
  refine n_then ?_
  refine r_list (by kernel_rfl) ?_
  refine s_val (v_addL (c := 3) rfl rfl (by decide) (by decide)) ?_
  refine s_val (v_move (v := .int .i64 _) rfl) ?_
  refine s_end ?_
  refine n_thenR ?_
  refine r_succ ?_
  refine r_seq (by kernel_rfl) ?_
  refine s_val (v_lss (k := .i64) rfl rfl) ?_
  refine s_nil ?_
  refine c_seq ?_
  refine c_condTh rfl rfl rfl ?_
  refine c_skip ?_
  refine n_then ?_
  refine c_seq ?_
  refine c_block ?_
  refine r_seq (by kernel_rfl) ?_
  refine s_val (v_move (v := .int .i64 _) rfl) ?_
  refine s_val (v_indexV (len := 4) (t := 23) (m := 2) (k := .i64) (cs' := acc2 _ _) (by kernel_rfl) (by kernel_rfl) rfl rfl (by decide) (accA_at _ _ (by decide))) ?_
  refine s_alloc (z := zeroOf Try.prog 23) (by kernel_rfl) (fun b14 => ?_)
  refine s_val (v_assign (v := .int .i64 _) rfl) ?_
  refine s_storeA (m := 2) (by kernel_rfl) rfl rfl .here (by kernel_rfl) rfl (acc2_all _ _) ?_
  refine s_nil ?_
  refine r_seq (by kernel_rfl) ?_
  refine s_val (v_move (v := .int .i64 _) rfl) ?_
  refine s_val (v_field (fo := 0) (by kernel_rfl) rfl) ?_
  refine s_val (v_load1 (v := .int .i64 _) (by kernel_rfl) rfl .here rfl) ?_
  refine s_val (v_addw rfl rfl) ?_
  refine s_val (v_assign (v := .int .i64 _) rfl) ?_
  refine s_nil ?_
  refine c_seq ?_
  refine d_seq (by kernel_rfl) (by kernel_rfl) (fun w hw => hw.drew) (by kernel_rfl) ?_
  refine q_val (v_loadA (m := 42) (by kernel_rfl) rfl (.there (.there (.there (.there .here)))) (H.size _)) ?_
  refine q_val (v_move (v := .int .i64 _) rfl) ?_
  refine q_call (by kernel_rfl) (fun w hw => g_Left _ _ w) ?_
  refine q_val (v_field (fo := 0) (by kernel_rfl) rfl) ?_
  refine q_val (v_load1 (v := .int .i64 _) (by kernel_rfl) rfl .here rfl) ?_
  refine q_val (v_field (fo := 1) (by kernel_rfl) rfl) ?_
  refine q_val (v_load1 (v := .int .i64 _) (by kernel_rfl) rfl .here rfl) ?_
  refine q_val (v_addw rfl rfl) ?_
  refine q_val (v_neq (k := .i64) rfl rfl) ?_
  refine q_nil ?_
  refine c_condFh rfl rfl (congrArg not (decide_eq_true rfl)) ?_
  refine c_skip ?_
  refine n_then ?_
  refine r_seq (by kernel_rfl) ?_
  refine s_val (v_move (v := .int .i64 _) rfl) ?_
  refine s_nil ?_
  refine c_block ?_
  refine c_rounds 5 ?_
  refine r_succ ?_
  refine r_seq (by kernel_rfl) ?_
  refine s_val (v_lss (k := .i64) rfl rfl) ?_
  refine s_nil ?_
  refine c_seq ?_
  refine c_condTh rfl rfl rfl ?_
  refine c_skip ?_
  refine n_then ?_
  refine c_seq ?_
  refine c_block ?_
  refine r_seq (by kernel_rfl) ?_
  refine s_val (v_move (v := .int .i64 _) rfl) ?_
  refine s_val (v_assign (v := .int .i64 _) rfl) ?_
  refine s_nil ?_
  refine d_seq (by kernel_rfl) (by kernel_rfl) (fun w hw => hw.drew) (by kernel_rfl) ?_
  refine q_val (v_loadA (m := 42) (by kernel_rfl) rfl (.there (.there (.there (.there .here)))) (H.size _)) ?_
  refine q_val (v_move (v := .int .i64 _) rfl) ?_
  refine q_val (v_move (v := .int .i64 _) rfl) ?_
  refine q_call (by kernel_rfl) (fun w hw => g_Net _ _ _ w) ?_
  refine q_val (v_move (v := .int .i64 _) rfl) ?_
  refine q_val (v_move (v := .int .i64 _) rfl) ?_
  refine q_val (v_field (fo := 8) (by kernel_rfl) rfl) ?_
  refine q_val (v_idxA (len := 4) (size := 4) (k := .i64) (by kernel_rfl) rfl rfl (by decide)) ?_
  refine q_val (v_idxA (len := 4) (size := 1) (k := .i64) (by kernel_rfl) rfl rfl (by decide)) ?_
  refine q_val (v_load1 (v := .int .i64 _) (by kernel_rfl) rfl (.there (.there (.there (.there (.there .here))))) (H.at_sent _ (by decide) (by decide))) ?_
  refine q_val (v_move (v := .int .i64 _) rfl) ?_
  refine q_val (v_move (v := .int .i64 _) rfl) ?_
  refine q_val (v_field (fo := 8) (by kernel_rfl) rfl) ?_
  refine q_val (v_idxA (len := 4) (size := 4) (k := .i64) (by kernel_rfl) rfl rfl (by decide)) ?_
  refine q_val (v_idxA (len := 4) (size := 1) (k := .i64) (by kernel_rfl) rfl rfl (by decide)) ?_
  refine q_val (v_load1 (v := .int .i64 _) (by kernel_rfl) rfl (.there (.there (.there (.there (.there .here))))) (H.at_sent _ (by decide) (by decide))) ?_
  refine q_val (v_subw rfl rfl) ?_
  refine q_val (v_neq (k := .i64) rfl rfl) ?_
  refine q_nil ?_
  refine c_condFh rfl rfl (congrArg not (decide_eq_true rfl)) ?_
  refine c_skip ?_
  refine n_bnormal ?_
  refine n_then ?_
  refine r_list (by kernel_rfl) ?_
  refine s_val (v_addL (c := 1) rfl rfl (by decide) (by decide)) ?_
  refine s_val (v_move (v := .int .i64 _) rfl) ?_
  refine s_end ?_
  refine n_thenR ?_
  refine r_succ ?_
  refine r_seq (by kernel_rfl) ?_
  refine s_val (v_lss (k := .i64) rfl rfl) ?_
  refine s_nil ?_
  refine c_seq ?_
  refine c_condTh rfl rfl rfl ?_
  refine c_skip ?_
  refine n_then ?_
  refine c_seq ?_
  refine c_block ?_
  refine r_seq (by kernel_rfl) ?_
  refine s_val (v_move (v := .int .i64 _) rfl) ?_
  refine s_val (v_assign (v := .int .i64 _) rfl) ?_
  refine s_nil ?_
  refine d_seq (by kernel_rfl) (by kernel_rfl) (fun w hw => hw.drew) (by kernel_rfl) ?_
  refine q_val (v_loadA (m := 42) (by kernel_rfl) rfl (.there (.there (.there (.there .here)))) (H.size _)) ?_
  refine q_val (v_move (v := .int .i64 _) rfl) ?_
  refine q_val (v_move (v := .int .i64 _) rfl) ?_
  refine q_call (by kernel_rfl) (fun w hw => g_Net _ _ _ w) ?_
  refine q_val (v_move (v := .int .i64 _) rfl) ?_
  refine q_val (v_move (v := .int .i64 _) rfl) ?_
  refine q_val (v_field (fo := 8) (by kernel_rfl) rfl) ?_
  refine q_val (v_idxA (len := 4) (size := 4) (k := .i64) (by kernel_rfl) rfl rfl (by decide)) ?_
  refine q_val (v_idxA (len := 4) (size := 1) (k := .i64) (by kernel_rfl) rfl rfl (by decide)) ?_
  refine q_val (v_load1 (v := .int .i64 _) (by kernel_rfl) rfl (.there (.there (.there (.there (.there .here))))) (H.at_sent _ (by decide) (by decide))) ?_
  refine q_val (v_move (v := .int .i64 _) rfl) ?_
  refine q_val (v_move (v := .int .i64 _) rfl) ?_
  refine q_val (v_field (fo := 8) (by kernel_rfl) rfl) ?_
  refine q_val (v_idxA (len := 4) (size := 4) (k := .i64) (by kernel_rfl) rfl rfl (by decide)) ?_
  refine q_val (v_idxA (len := 4) (size := 1) (k := .i64) (by kernel_rfl) rfl rfl (by decide)) ?_
  refine q_val (v_load1 (v := .int .i64 _) (by kernel_rfl) rfl (.there (.there (.there (.there (.there .here))))) (H.at_sent _ (by decide) (by decide))) ?_
  refine q_val (v_subw rfl rfl) ?_
  refine q_val (v_neq (k := .i64) rfl rfl) ?_
  refine q_nil ?_
  refine c_condFh rfl rfl (congrArg not (decide_eq_true rfl)) ?_
  refine c_skip ?_
  refine n_bnormal ?_
  refine n_then ?_
  refine r_list (by kernel_rfl) ?_
  refine s_val (v_addL (c := 2) rfl rfl (by decide) (by decide)) ?_
  refine s_val (v_move (v := .int .i64 _) rfl) ?_
  refine s_end ?_
  refine n_thenR ?_
  refine r_succ ?_
  refine r_seq (by kernel_rfl) ?_
  refine s_val (v_lss (k := .i64) rfl rfl) ?_
  refine s_nil ?_
  refine c_seq ?_
  refine c_condTh rfl rfl rfl ?_
  refine c_skip ?_
  refine n_then ?_
  refine c_seq ?_
  refine c_block ?_
  refine r_seq (by kernel_rfl) ?_
  refine s_val (v_move (v := .int .i64 _) rfl) ?_
  refine s_val (v_assign (v := .int .i64 _) rfl) ?_
  refine s_nil ?_
  refine d_seq (by kernel_rfl) (by kernel_rfl) (fun w hw => hw.drew) (by kernel_rfl) ?_
  refine q_val (v_loadA (m := 42) (by kernel_rfl) rfl (.there (.there (.there (.there .here)))) (H.size _)) ?_
  refine q_val (v_move (v := .int .i64 _) rfl) ?_
  refine q_val (v_move (v := .int .i64 _) rfl) ?_
  refine q_call (by kernel_rfl) (fun w hw => g_Net _ _ _ w) ?_
  refine q_val (v_move (v := .int .i64 _) rfl) ?_
  refine q_val (v_move (v := .int .i64 _) rfl) ?_
  refine q_val (v_field (fo := 8) (by kernel_rfl) rfl) ?_
  refine q_val (v_idxA (len := 4) (size := 4) (k := .i64) (by kernel_rfl) rfl rfl (by decide)) ?_
  refine q_val (v_idxA (len := 4) (size := 1) (k := .i64) (by kernel_rfl) rfl rfl (by decide)) ?_
  refine q_val (v_load1 (v := .int .i64 _) (by kernel_rfl) rfl (.there (.there (.there (.there (.there .here))))) (H.at_sent _ (by decide) (by decide))) ?_
  refine q_val (v_move (v := .int .i64 _) rfl) ?_
  refine q_val (v_move (v := .int .i64 _) rfl) ?_
  refine q_val (v_field (fo := 8) (by kernel_rfl) rfl) ?_
  refine q_val (v_idxA (len := 4) (size := 4) (k := .i64) (by kernel_rfl) rfl rfl (by decide)) ?_
  refine q_val (v_idxA (len := 4) (size := 1) (k := .i64) (by kernel_rfl) rfl rfl (by decide)) ?_
  refine q_val (v_load1 (v := .int .i64 _) (by kernel_rfl) rfl (.there (.there (.there (.there (.there .here))))) (H.at_sent _ (by decide) (by decide))) ?_
  refine q_val (v_subw rfl rfl) ?_
  refine q_val (v_neq (k := .i64) rfl rfl) ?_
  refine q_nil ?_
  refine c_condFh rfl rfl (congrArg not (decide_eq_true rfl)) ?_
  refine c_skip ?_
  refine n_bnormal ?_
  refine n_then ?_
  refine r_list (by kernel_rfl) ?_
  refine s_val (v_addL (c := 3) rfl rfl (by decide) (by decide)) ?_
  refine s_val (v_move (v := .int .i64 _) rfl) ?_
  refine s_end ?_
  refine n_thenR ?_
  refine r_succ ?_
  refine r_seq (by kernel_rfl) ?_
  refine s_val (v_lss (k := .i64) rfl rfl) ?_
  refine s_nil ?_
  refine c_seq ?_
  refine c_condTh rfl rfl rfl ?_
  refine c_skip ?_
  refine n_then ?_
  refine c_seq ?_
  refine c_block ?_
  refine r_seq (by kernel_rfl) ?_
  refine s_val (v_move (v := .int .i64 _) rfl) ?_
  refine s_val (v_assign (v := .int .i64 _) rfl) ?_
  refine s_nil ?_
  refine d_seq (by kernel_rfl) (by kernel_rfl) (fun w hw => hw.drew) (by kernel_rfl) ?_
  refine q_val (v_loadA (m := 42) (by kernel_rfl) rfl (.there (.there (.there (.there .here)))) (H.size _)) ?_
  refine q_val (v_move (v := .int .i64 _) rfl) ?_
  refine q_val (v_move (v := .int .i64 _) rfl) ?_
  refine q_call (by kernel_rfl) (fun w hw => g_Net _ _ _ w) ?_
  refine q_val (v_move (v := .int .i64 _) rfl) ?_
  refine q_val (v_move (v := .int .i64 _) rfl) ?_
  refine q_val (v_field (fo := 8) (by kernel_rfl) rfl) ?_
  refine q_val (v_idxA (len := 4) (size := 4) (k := .i64) (by kernel_rfl) rfl rfl (by decide)) ?_
  refine q_val (v_idxA (len := 4) (size := 1) (k := .i64) (by kernel_rfl) rfl rfl (by decide)) ?_
  refine q_val (v_load1 (v := .int .i64 _) (by kernel_rfl) rfl (.there (.there (.there (.there (.there .here))))) (H.at_sent _ (by decide) (by decide))) ?_
  refine q_val (v_move (v := .int .i64 _) rfl) ?_
  refine q_val (v_move (v := .int .i64 _) rfl) ?_
  refine q_val (v_field (fo := 8) (by kernel_rfl) rfl) ?_
  refine q_val (v_idxA (len := 4) (size := 4) (k := .i64) (by kernel_rfl) rfl rfl (by decide)) ?_
  refine q_val (v_idxA (len := 4) (size := 1) (k := .i64) (by kernel_rfl) rfl rfl (by decide)) ?_
  refine q_val (v_load1 (v := .int .i64 _) (by kernel_rfl) rfl (.there (.there (.there (.there (.there .here))))) (H.at_sent _ (by decide) (by decide))) ?_
  refine q_val (v_subw rfl rfl) ?_
  refine q_val (v_neq (k := .i64) rfl rfl) ?_
  refine q_nil ?_
  refine c_condFh rfl rfl (congrArg not (decide_eq_true rfl)) ?_
  refine c_skip ?_
  refine n_bnormal ?_
  refine n_then ?_
  refine r_list (by kernel_rfl) ?_
  refine s_val (v_addL (c := 4) rfl rfl (by decide) (by decide)) ?_
  refine s_val (v_move (v := .int .i64 _) rfl) ?_
  refine s_end ?_
  refine n_thenR ?_
  refine r_succ ?_
  refine r_seq (by kernel_rfl) ?_
  refine s_val (v_lss (k := .i64) rfl rfl) ?_
  refine s_nil ?_
  refine c_seq ?_
  refine c_condFh rfl rfl rfl ?_
  refine c_exit ?_
  refine n_exit ?_
  refine n_exit ?_
  refine n_bhere ?_
  refine n_bnormal ?_
  refine n_then ?_
  refine r_list (by kernel_rfl) ?_
  refine s_val (v_addL (c := 4) rfl rfl (by decide) (by decide)) ?_
  refine s_val (v_move (v := .int .i64 _) rfl) ?_
  refine s_end ?_
  refine n_thenR ?_
  refine r_succ ?_
  refine r_seq (by kernel_rfl) ?_
  refine s_val (v_lss (k := .i64) rfl rfl) ?_
  refine s_nil ?_
  refine c_seq ?_
  refine c_condFh rfl rfl rfl ?_
  refine c_exit ?_
  refine n_exit ?_
  refine n_exit ?_
  refine n_bhere ?_
  refine n_then ?_
  refine d_seq (by kernel_rfl) (by kernel_rfl) (fun w hw => hw.drew) (by kernel_rfl) ?_
  refine q_val (v_loadA (m := 42) (by kernel_rfl) rfl (.there (.there (.there (.there .here)))) (H.size _)) ?_
  refine q_call (by kernel_rfl) (fun w hw => g_Sum _ w) ?_
  refine q_val (v_move (v := .int .i64 _) rfl) ?_
  refine q_val (v_eql (k := .i64) rfl rfl) ?_
  refine q_val (v_move (v := .bool _) rfl) ?_
  refine q_want rfl rfl (decide_eq_true rfl) ?_
  refine q_val (v_loadA (m := 42) (by kernel_rfl) rfl (.there (.there (.there (.there .here)))) (H.size _)) ?_
  refine q_want rfl rfl (decide_eq_true rfl) ?_
  refine q_val (v_move (v := .int .i64 _) rfl) ?_
  refine q_want rfl rfl (decide_eq_true rfl) ?_
  refine q_val (v_move (v := .int .i64 _) rfl) ?_
  refine q_want rfl rfl (decide_eq_true rfl) ?_
  refine q_val (v_move (v := .int .i64 _) rfl) ?_
  refine q_want rfl rfl (decide_eq_true rfl) ?_
  refine q_call (by kernel_rfl) (fun w hw => g_May _ _ _ _ w) ?_
  refine q_want rfl rfl (decide_eq_true rfl) ?_
  refine q_val (v_loadA (m := 42) (by kernel_rfl) rfl (.there (.there (.there (.there (.there .here))))) (H.size _)) ?_
  refine q_want rfl rfl (decide_eq_true rfl) ?_
  refine q_val (v_move (v := .int .i64 _) rfl) ?_
  refine q_want rfl rfl (decide_eq_true rfl) ?_
  refine q_val (v_move (v := .int .i64 _) rfl) ?_
  refine q_want rfl rfl (decide_eq_true rfl) ?_
  refine q_val (v_move (v := .int .i64 _) rfl) ?_
  refine q_want rfl rfl (decide_eq_true rfl) ?_
  refine q_call (by kernel_rfl) (fun w hw => gr_MaySend _ _ _ _ w) ?_
  refine q_want rfl rfl (decide_eq_true rfl) ?_
  refine q_val (v_eqlB (by kernel_rfl) rfl rfl) ?_
  refine q_val (v_pickT (v := .bool _) rfl (decide_eq_true rfl) rfl) ?_
  refine q_val (v_move (v := .bool _) rfl) ?_
  refine q_want rfl rfl (beq_iff_eq.2 (may_eq G a b n)) ?_
  refine q_val (v_loadA (m := 42) (by kernel_rfl) rfl (.there (.there (.there (.there .here)))) (H.size _)) ?_
  refine q_want rfl rfl (beq_iff_eq.2 (may_eq G a b n)) ?_
  refine q_val (v_move (v := .int .i64 _) rfl) ?_
  refine q_want rfl rfl (beq_iff_eq.2 (may_eq G a b n)) ?_
  refine q_val (v_move (v := .int .i64 _) rfl) ?_
  refine q_want rfl rfl (beq_iff_eq.2 (may_eq G a b n)) ?_
  refine q_val (v_move (v := .int .i64 _) rfl) ?_
  refine q_want rfl rfl (beq_iff_eq.2 (may_eq G a b n)) ?_
  refine q_call (by kernel_rfl) (fun w hw => g_Move _ _ _ _ w) ?_
  refine q_want rfl rfl (beq_iff_eq.2 (may_eq G a b n)) ?_
  refine q_val (v_loadA (m := 42) (by kernel_rfl) rfl (.there (.there (.there (.there (.there .here))))) (H.size _)) ?_
  refine q_want rfl rfl (beq_iff_eq.2 (may_eq G a b n)) ?_
  refine q_val (v_move (v := .int .i64 _) rfl) ?_
  refine q_want rfl rfl (beq_iff_eq.2 (may_eq G a b n)) ?_
  refine q_val (v_move (v := .int .i64 _) rfl) ?_
  refine q_want rfl rfl (beq_iff_eq.2 (may_eq G a b n)) ?_
  refine q_val (v_move (v := .int .i64 _) rfl) ?_
  refine q_want rfl rfl (beq_iff_eq.2 (may_eq G a b n)) ?_
  refine q_call (by kernel_rfl) (fun w hw => gr_MoveSum _ _ _ _ w) ?_
  refine q_want rfl rfl (beq_iff_eq.2 (may_eq G a b n)) ?_
  refine q_call (by kernel_rfl) (fun w hw => gr_SameHouse _ ps _ ps w (move_pays (hp17.at hw) a b n) (move_pays (hp1.at hw) a b n) (by rw [move_pl]; show h.pl ≤ _; omega)) ?_
  refine q_val (v_pickT (v := .bool _) rfl (beq_iff_eq.2 (may_eq G a b n)) rfl) ?_
  refine q_val (v_move (v := .bool _) rfl) ?_
  refine q_want rfl rfl (same_move h pa1 pc1 ps a b n) ?_
  refine q_val (v_loadA (m := 42) (by kernel_rfl) rfl (.there (.there (.there (.there .here)))) (H.size _)) ?_
  refine q_want rfl rfl (same_move h pa1 pc1 ps a b n) ?_
  refine q_val (v_loadA (m := 42) (by kernel_rfl) rfl (.there (.there (.there (.there (.there .here))))) (H.size _)) ?_
  refine q_want rfl rfl (same_move h pa1 pc1 ps a b n) ?_
  refine q_call (by kernel_rfl) (fun w hw => gr_SameHouse _ ps _ ps w (hp17.at hw) (hp1.at hw) (show h.pl ≤ _ by omega)) ?_
  refine q_val (v_pickT (v := .bool _) rfl (same_move h pa1 pc1 ps a b n) rfl) ?_
  refine q_val (v_assign (v := .bool _) rfl) ?_
  refine q_nil ?_
  refine c_ret ?_
  refine n_done rfl (by decide) (Eq.trans (b := .bool _) rfl (congrArg Value.bool ?_))
  first | rfl | exact same_of (fun _ _ => ⟨rfl, rfl⟩) (fun _ _ _ _ => ⟨rfl, rfl⟩) rfl rfl

end Go.Proofs.Ytmkboljfbmlebaa
/- The law QueueTells. Condition: the payments lie in memory that is known. -/
namespace Go.Proofs.Ytmkboljfbmlebaa
open Go.RowKit
set_option linter.unusedSimpArgs false
set_option linter.unusedVariables false
set_option maxRecDepth 100000
attribute [local irreducible] cC sC nC rC qw

set_option maxHeartbeats 1000000 in
theorem law_QueueTells (h : H) (ps : List PayS) (who n : Int) (w : World) (hp : PaysIn (At w) h.pa h.pl ps) (hb : h.pl * 48 ≤ 281474976710656) (hlc : h.pl ≤ h.pc) (hqs : ∀ w, Gives Try.prog 35 [] w (.bool true)) : Gives Try.prog 5 [.agg h.cells, I who, I n] w (.bool true) := by
  refine gives_of Try.func5 rfl Try.ntmps5 (by simp) ?_
  refine r_seq (by kernel_rfl) ?_
  refine s_box (v := .agg _) rfl (fun b3 => ?_)
  refine s_val (v_assign (v := .bool _) rfl) ?_
  refine s_nil ?_
  refine r_seq (by kernel_rfl) ?_
  refine s_val (v_loadA (m := 42) (by kernel_rfl) rfl .here (H.size _)) ?_
  refine s_callF (by kernel_rfl) (fun w hw => gr_CopyHouseE h ps w (hp.at hw) hb hlc) (fun F13 v13 E13 hF13 hK13 hR13 => ?_)
  obtain ⟨pa1, pc1, rfl, hpe⟩ := hR13
  have hp1 := hpe.known hK13
  have hlc1 := hpe.2.1
  have hph := hp.mono hF13
  refine s_alloc (z := .agg zeroH.cells) (by kernel_rfl) (fun b7 => ?_)
  refine s_storeA (m := 42) (by kernel_rfl) rfl rfl .here (H.size _) (H.size _) (H.all1 _) ?_
  refine s_nil ?_
  refine r_seq (by kernel_rfl) ?_
  refine s_val (v_loadA (m := 42) (by kernel_rfl) rfl .here (H.size _)) ?_
  refine s_callG (by kernel_rfl) (sweepF_mono _ _ _) (fun w hw => g_Sweep ({ h with pa := pa1, pc := pc1 } : H) ps w (hp1.at hw) hb hlc1) (fun F16 v16 hF16 hR16 => ?_)
  obtain ⟨v1, v2, rfl, ⟨h16, rfl, hc16, hl16, ho16⟩, hi16⟩ := hR16
  obtain ⟨a16, c16, rfl, ia16⟩ := hi16.at
  refine s_val (v_move (v := .tuple _) rfl) ?_
  refine s_val (v_extract rfl rfl) ?_
  refine s_val (v_extract rfl rfl) ?_
  refine s_alloc (z := .agg zeroH.cells) (by kernel_rfl) (fun b8 => ?_)
  refine s_storeA (m := 42) (by kernel_rfl) rfl rfl .here (H.size _) (H.size _) (H.all1 _) ?_
  refine s_val (v_assign (v := .slice _ _ _) rfl) ?_
  refine s_nil ?_
  refine r_seq (by kernel_rfl) ?_
  refine s_val (v_loadA (m := 42) (by kernel_rfl) rfl (.there (.there .here)) (H.size _)) ?_
  refine s_callG (by kernel_rfl) (sweepF_mono _ _ _) (fun w hw => gr_SweepHouse h ps w ((hph.mono hF16).at hw) hb hlc) (fun F21 v21 hF21 hR21 => ?_)
  obtain ⟨v1, v2, rfl, ⟨h21, rfl, hc21, hl21, ho21⟩, hi21⟩ := hR21
  obtain ⟨a21, c21, rfl, ia21⟩ := hi21.at
  refine s_val (v_move (v := .tuple _) rfl) ?_
  refine s_val (v_extract rfl rfl) ?_
  refine s_val (v_extract rfl rfl) ?_
  refine s_alloc (z := .agg zeroH.cells) (by kernel_rfl) (fun b10 => ?_)
  refine s_storeA (m := 42) (by kernel_rfl) rfl rfl .here (H.size _) (H.size _) (H.all1 _) ?_
  refine s_val (v_assign (v := .slice _ _ _) rfl) ?_
  refine s_nil ?_
  refine c_seq ?_
  have p16 := (outPays (F' := F16) hp1 hF16 (more_young _ _) ho16).mono hF21
  have p21 := outPays (F' := F21) (hph.mono hF16) hF21 (more_young _ _) ho21
  refine r_seq (by kernel_rfl) ?_
  refine s_val (v_loadA (m := 42) (by kernel_rfl) rfl (.there .here) (H.size _)) ?_
  refine s_val (v_loadA (m := 42) (by kernel_rfl) rfl .here (H.size _)) ?_
  refine s_call (by kernel_rfl) (fun w hw => gr_SameHouse h16 (sweepM h.core ps).ps h21 (sweepM h.core ps).ps w (p16.at hw) (p21.at hw) (by rw [← p16.1, (sweepM_len _ _).1, hp.1]; omega)) ?_
  refine s_val (v_not rfl) ?_
  refine s_val (v_move (v := .bool _) rfl) ?_
  refine s_want rfl rfl (congrArg not (same_core (hc16.trans hc21.symm) (by rw [← p16.1, ← p21.1]; rfl))) ?_
  refine s_val (v_move (v := .slice _ _ _) rfl) ?_
  refine s_want rfl rfl (congrArg not (same_core (hc16.trans hc21.symm) (by rw [← p16.1, ← p21.1]; rfl))) ?_
  refine s_val (v_move (v := .slice _ _ _) rfl) ?_
  refine s_want rfl rfl (congrArg not (same_core (hc16.trans hc21.symm) (by rw [← p16.1, ← p21.1]; rfl))) ?_
  refine s_call (by kernel_rfl) (fun w hw => gr_SameInts a16 a21 _ _ (sweepM h.core ps).xs (sweepM h.core ps).xs w (((ia16.mono (more_young _ _)).mono hF21).at hw) ((ia21.mono (more_young _ _)).at hw) (by have := (sweepM_len h.core ps).2; have := hp.1; omega)) ?_
  refine s_want rfl rfl (congrArg not (same_core (hc16.trans hc21.symm) (by rw [← p16.1, ← p21.1]; rfl))) ?_
  refine s_val (v_not rfl) ?_
  refine s_val (v_pickF (v := .bool _) rfl (congrArg not (same_core (hc16.trans hc21.symm) (by rw [← p16.1, ← p21.1]; rfl))) rfl) ?_
  refine s_val (v_move (v := .bool _) rfl) ?_
  refine s_want rfl rfl (congrArg not (decide_eq_true rfl)) ?_
  refine s_val (v_loadA (m := 42) (by kernel_rfl) rfl (.there (.there .here)) (H.size _)) ?_
  refine s_want rfl rfl (congrArg not (decide_eq_true rfl)) ?_
  refine s_val (v_loadA (m := 42) (by kernel_rfl) rfl (.there (.there (.there .here))) (H.size _)) ?_
  refine s_want rfl rfl (congrArg not (decide_eq_true rfl)) ?_
  refine s_call (by kernel_rfl) (fun w hw => gr_SameHouse ({ h with pa := pa1, pc := pc1 } : H) ps h ps w (((hp1.mono hF16).mono hF21).at hw) (((hph.mono hF16).mono hF21).at hw) (by show h.pl ≤ _; omega)) ?_
  refine s_want rfl rfl (congrArg not (decide_eq_true rfl)) ?_
  refine s_val (v_not rfl) ?_
  refine s_val (v_pickF (v := .bool _) rfl (congrArg not (decide_eq_true rfl)) rfl) ?_
  refine s_val (v_move (v := .bool _) rfl) ?_
  refine s_want rfl rfl (congrArg not (same_core (h := ({ h with pa := pa1, pc := pc1 } : H)) (k := h) rfl rfl)) ?_
  refine s_call (by kernel_rfl) (fun w hw => hqs w) ?_
  refine s_want rfl rfl (congrArg not (same_core (h := ({ h with pa := pa1, pc := pc1 } : H)) (k := h) rfl rfl)) ?_
  refine s_val (v_not rfl) ?_
  refine s_val (v_pickF (v := .bool _) rfl (congrArg not (same_core (h := ({ h with pa := pa1, pc := pc1 } : H)) (k := h) rfl rfl)) rfl) ?_
  refine s_nil ?_
  refine c_condFh rfl rfl (congrArg not rfl) ?_
  refine c_skip ?_
  refine n_then ?_
  rcases Bool.eq_false_or_eq_true (isHouseB h ps) with hIs | hIs
  · refine f_seq (T := (row 44 (Eqv (.agg h.cells)) (row 45 (Eqv (.bool true)) (row 46 (Eqv (.bool false)) (row 47 (Eqv (.bool false)) (row 48 (Eqv (.agg ({ h with pa := pa1, pc := pc1 } : H).cells)) (row 49 (Eqv (I who)) (row 50 ((fun F v => IntsIn F v (queueM ps who))) (row 51 (Eqv (.agg h.cells)) (row 52 (Eqv (I who)) (row 53 ((fun F v => IntsIn F v (queueM ps who))) (row 54 (Eqv (.bool true)) (row 55 (Eqv (.bool true)) (row 56 (Eqv (.agg ({ h with pa := pa1, pc := pc1 } : H).cells)) (row 57 (Eqv (I n)) (row 58 ((HouseF ({ h with pa := pa1, pc := pc1 } : H) ps (settleC h.core ps n) (settleP ps n))) (row 59 (Eqv (.agg h.cells)) (row 60 (Eqv (I n)) (row 61 ((HouseF h ps (settleC h.core ps n) (settleP ps n))) (row 62 (Eqv (.bool true)) (row 63 (Eqv (.bool true)) (row 64 (Eqv (.bool true)) (row 65 (Eqv (.agg ({ h with pa := pa1, pc := pc1 } : H).cells)) (row 66 (Eqv (.agg h.cells)) (row 67 (Eqv (.bool true)) (row 68 (Eqv (.bool true)) (row 69 (Eqv (.bool true)) (row 6 (Eqv (.bool true)) (fun _ => Any))))))))))))))))))))))))))))) (by kernel_rfl) (by kernel_rfl) (by kernel_rfl) (row_mono (eqv_mono _) (row_mono (eqv_mono _) (row_mono (eqv_mono _) (row_mono (eqv_mono _) (row_mono (eqv_mono _) (row_mono (eqv_mono _) (row_mono (ints_mono _) (row_mono (eqv_mono _) (row_mono (eqv_mono _) (row_mono (ints_mono _) (row_mono (eqv_mono _) (row_mono (eqv_mono _) (row_mono (eqv_mono _) (row_mono (eqv_mono _) (row_mono (houseF_mono _ _ _ _) (row_mono (eqv_mono _) (row_mono (eqv_mono _) (row_mono (houseF_mono _ _ _ _) (row_mono (eqv_mono _) (row_mono (eqv_mono _) (row_mono (eqv_mono _) (row_mono (eqv_mono _) (row_mono (eqv_mono _) (row_mono (eqv_mono _) (row_mono (eqv_mono _) (row_mono (eqv_mono _) (row_mono (eqv_mono _) (fun _ => any_mono)))))))))))))))))))))))))))) ⟨?_, ?_, ?_, ?_, ?_, ?_, ?_, ?_, ?_, ?_, ?_, ?_, ?_, ?_, ?_, ?_, ?_, ?_, ?_, ?_, ?_, ?_, ?_, ?_, ?_, ?_, ?_, trivial⟩ ?_
    · refine ob_free (fun g w hw hl => ?_)
      have e3 : g 3 = .pointer (some ⟨b3, 0, none⟩) := (hl 3 (of_decide_eq_true (by kernel_rfl))).2 (of_decide_eq_true (by kernel_rfl))
      exact x_val (v_loadA (m := 42) (by kernel_rfl) e3 (.there (.there (.there .here))) (H.size _)) hw rfl
    · refine ob_free (fun g w hw hl => ?_)
      have e44 : g 44 = .agg h.cells := (hl 44 (of_decide_eq_true (by kernel_rfl))).1 (of_decide_eq_true (by kernel_rfl))
      exact x_call (v := .bool true) (vs := [.agg h.cells]) (by kernel_rfl) (by show [g 44] = _; rw [e44]) (by have hh := gr_IsHouse h ps w (((hph.mono hF16).mono hF21).at hw) hb hlc; rw [hIs] at hh; exact hh) (fun _ => rfl)
    · refine ob_free (fun g w hw hl => ?_)
      have e45 : g 45 = .bool true := (hl 45 (of_decide_eq_true (by kernel_rfl))).1 (of_decide_eq_true (by kernel_rfl))
      exact x_val (v_not e45) hw rfl
    · refine ob_free (fun g w hw hl => ?_)
      have e46 : g 46 = .bool false := (hl 46 (of_decide_eq_true (by kernel_rfl))).1 (of_decide_eq_true (by kernel_rfl))
      exact x_val (v_move (v := .bool false) e46) hw rfl
    · refine ob_want (s := 47) rfl (fun g w hw hl => ?_)
      have e7 : g 7 = .pointer (some ⟨b7, 0, none⟩) := (hl 7 (of_decide_eq_true (by kernel_rfl))).2 (of_decide_eq_true (by kernel_rfl))
      have e47 : g 47 = .bool false := (hl 47 (of_decide_eq_true (by kernel_rfl))).1 (of_decide_eq_true (by kernel_rfl))
      refine ⟨e47, ?_⟩
      exact x_val (v_loadA (m := 42) (by kernel_rfl) e7 (.there (.there .here)) (H.size _)) hw rfl
    · refine ob_want (s := 47) rfl (fun g w hw hl => ?_)
      have e1 : g 1 = I who := (hl 1 (of_decide_eq_true (by kernel_rfl))).2 (of_decide_eq_true (by kernel_rfl))
      have e47 : g 47 = .bool false := (hl 47 (of_decide_eq_true (by kernel_rfl))).1 (of_decide_eq_true (by kernel_rfl))
      refine ⟨e47, ?_⟩
      exact x_val (v_move (v := I who) e1) hw rfl
    · refine ob_want (s := 47) rfl (fun g w hw hl => ?_)
      have e48 : g 48 = .agg ({ h with pa := pa1, pc := pc1 } : H).cells := (hl 48 (of_decide_eq_true (by kernel_rfl))).1 (of_decide_eq_true (by kernel_rfl))
      have e49 : g 49 = I who := (hl 49 (of_decide_eq_true (by kernel_rfl))).1 (of_decide_eq_true (by kernel_rfl))
      have e47 : g 47 = .bool false := (hl 47 (of_decide_eq_true (by kernel_rfl))).1 (of_decide_eq_true (by kernel_rfl))
      refine ⟨e47, ?_⟩
      exact x_callF (vs := [.agg ({ h with pa := pa1, pc := pc1 } : H).cells, I who]) (by kernel_rfl) (by show [g 48, g 49] = _; rw [e48, e49]) ((g_Of ({ h with pa := pa1, pc := pc1 } : H) ps who w (((hp1.mono hF16).mono hF21).at hw) hb hlc1 (good_pays ((isHouse_eq hp.1).symm.trans hIs)).2.1 (.inr (good_pays ((isHouse_eq hp.1).symm.trans hIs)).1)).toF (fun F v E hk hl => ints_of_list hl hk)) (fun w' v hb hr => hr.mono (fresh_at _ _))
    · refine ob_want (s := 47) rfl (fun g w hw hl => ?_)
      have e3 : g 3 = .pointer (some ⟨b3, 0, none⟩) := (hl 3 (of_decide_eq_true (by kernel_rfl))).2 (of_decide_eq_true (by kernel_rfl))
      have e47 : g 47 = .bool false := (hl 47 (of_decide_eq_true (by kernel_rfl))).1 (of_decide_eq_true (by kernel_rfl))
      refine ⟨e47, ?_⟩
      exact x_val (v_loadA (m := 42) (by kernel_rfl) e3 (.there (.there (.there .here))) (H.size _)) hw rfl
    · refine ob_want (s := 47) rfl (fun g w hw hl => ?_)
      have e1 : g 1 = I who := (hl 1 (of_decide_eq_true (by kernel_rfl))).2 (of_decide_eq_true (by kernel_rfl))
      have e47 : g 47 = .bool false := (hl 47 (of_decide_eq_true (by kernel_rfl))).1 (of_decide_eq_true (by kernel_rfl))
      refine ⟨e47, ?_⟩
      exact x_val (v_move (v := I who) e1) hw rfl
    · refine ob_want (s := 47) rfl (fun g w hw hl => ?_)
      have e51 : g 51 = .agg h.cells := (hl 51 (of_decide_eq_true (by kernel_rfl))).1 (of_decide_eq_true (by kernel_rfl))
      have e52 : g 52 = I who := (hl 52 (of_decide_eq_true (by kernel_rfl))).1 (of_decide_eq_true (by kernel_rfl))
      have e47 : g 47 = .bool false := (hl 47 (of_decide_eq_true (by kernel_rfl))).1 (of_decide_eq_true (by kernel_rfl))
      refine ⟨e47, ?_⟩
      exact x_callF (vs := [.agg h.cells, I who]) (by kernel_rfl) (by show [g 51, g 52] = _; rw [e51, e52]) ((gr_QueueOf h ps who w (((hph.mono hF16).mono hF21).at hw) hb hlc).toF (fun F v E hk hl => ints_of_list hl hk)) (fun w' v hb hr => hr.mono (fresh_at _ _))
    · refine ob_want (s := 47) rfl (fun g w hw hl => ?_)
      obtain ⟨a50, c50, e50, i50⟩ := (show (fun F v => IntsIn F v (queueM ps who)) (At w) (g 50) from (hl 50 (of_decide_eq_true (by kernel_rfl))).1 (of_decide_eq_true (by kernel_rfl)))
      obtain ⟨a53, c53, e53, i53⟩ := (show (fun F v => IntsIn F v (queueM ps who)) (At w) (g 53) from (hl 53 (of_decide_eq_true (by kernel_rfl))).1 (of_decide_eq_true (by kernel_rfl)))
      have e47 : g 47 = .bool false := (hl 47 (of_decide_eq_true (by kernel_rfl))).1 (of_decide_eq_true (by kernel_rfl))
      refine ⟨e47, ?_⟩
      exact x_call (v := .bool true) (vs := [.slice a50 (queueM ps who).length c50, .slice a53 (queueM ps who).length c53]) (by kernel_rfl) (by show [g 50, g 53] = _; rw [e50, e53]) (by have hh := gr_SameInts a50 a53 c50 c53 (queueM ps who) (queueM ps who) w i50 i53 (by have := queueTo_len ps who ps.length; have := hp.1; unfold queueM; omega); rw [decide_eq_true rfl] at hh; exact hh) (fun _ => rfl)
    · refine ob_want (s := 47) rfl (fun g w hw hl => ?_)
      have e54 : g 54 = .bool true := (hl 54 (of_decide_eq_true (by kernel_rfl))).1 (of_decide_eq_true (by kernel_rfl))
      have e47 : g 47 = .bool false := (hl 47 (of_decide_eq_true (by kernel_rfl))).1 (of_decide_eq_true (by kernel_rfl))
      refine ⟨e47, ?_⟩
      exact x_val (v_move (v := .bool true) e54) hw rfl
    · refine ob_want (s := 55) rfl (fun g w hw hl => ?_)
      have e7 : g 7 = .pointer (some ⟨b7, 0, none⟩) := (hl 7 (of_decide_eq_true (by kernel_rfl))).2 (of_decide_eq_true (by kernel_rfl))
      have e55 : g 55 = .bool true := (hl 55 (of_decide_eq_true (by kernel_rfl))).1 (of_decide_eq_true (by kernel_rfl))
      refine ⟨e55, ?_⟩
      exact x_val (v_loadA (m := 42) (by kernel_rfl) e7 (.there (.there .here)) (H.size _)) hw rfl
    · refine ob_want (s := 55) rfl (fun g w hw hl => ?_)
      have e2 : g 2 = I n := (hl 2 (of_decide_eq_true (by kernel_rfl))).2 (of_decide_eq_true (by kernel_rfl))
      have e55 : g 55 = .bool true := (hl 55 (of_decide_eq_true (by kernel_rfl))).1 (of_decide_eq_true (by kernel_rfl))
      refine ⟨e55, ?_⟩
      exact x_val (v_move (v := I n) e2) hw rfl
    · refine ob_want (s := 55) rfl (fun g w hw hl => ?_)
      have e56 : g 56 = .agg ({ h with pa := pa1, pc := pc1 } : H).cells := (hl 56 (of_decide_eq_true (by kernel_rfl))).1 (of_decide_eq_true (by kernel_rfl))
      have e57 : g 57 = I n := (hl 57 (of_decide_eq_true (by kernel_rfl))).1 (of_decide_eq_true (by kernel_rfl))
      have e55 : g 55 = .bool true := (hl 55 (of_decide_eq_true (by kernel_rfl))).1 (of_decide_eq_true (by kernel_rfl))
      refine ⟨e55, ?_⟩
      exact x_callF (vs := [.agg ({ h with pa := pa1, pc := pc1 } : H).cells, I n]) (by kernel_rfl) (by show [g 56, g 57] = _; rw [e56, e57]) (g_Settle ({ h with pa := pa1, pc := pc1 } : H) ps n w (((hp1.mono hF16).mono hF21).at hw) hb hlc1) (fun w' v hb hr => houseF_mono _ _ _ _ _ _ _ (fresh_at _ _) hr)
    · refine ob_want (s := 55) rfl (fun g w hw hl => ?_)
      have e3 : g 3 = .pointer (some ⟨b3, 0, none⟩) := (hl 3 (of_decide_eq_true (by kernel_rfl))).2 (of_decide_eq_true (by kernel_rfl))
      have e55 : g 55 = .bool true := (hl 55 (of_decide_eq_true (by kernel_rfl))).1 (of_decide_eq_true (by kernel_rfl))
      refine ⟨e55, ?_⟩
      exact x_val (v_loadA (m := 42) (by kernel_rfl) e3 (.there (.there (.there .here))) (H.size _)) hw rfl
    · refine ob_want (s := 55) rfl (fun g w hw hl => ?_)
      have e2 : g 2 = I n := (hl 2 (of_decide_eq_true (by kernel_rfl))).2 (of_decide_eq_true (by kernel_rfl))
      have e55 : g 55 = .bool true := (hl 55 (of_decide_eq_true (by kernel_rfl))).1 (of_decide_eq_true (by kernel_rfl))
      refine ⟨e55, ?_⟩
      exact x_val (v_move (v := I n) e2) hw rfl
    · refine ob_want (s := 55) rfl (fun g w hw hl => ?_)
      have e59 : g 59 = .agg h.cells := (hl 59 (of_decide_eq_true (by kernel_rfl))).1 (of_decide_eq_true (by kernel_rfl))
      have e60 : g 60 = I n := (hl 60 (of_decide_eq_true (by kernel_rfl))).1 (of_decide_eq_true (by kernel_rfl))
      have e55 : g 55 = .bool true := (hl 55 (of_decide_eq_true (by kernel_rfl))).1 (of_decide_eq_true (by kernel_rfl))
      refine ⟨e55, ?_⟩
      exact x_callF (vs := [.agg h.cells, I n]) (by kernel_rfl) (by show [g 59, g 60] = _; rw [e59, e60]) (gr_SettlePay h ps n w (((hph.mono hF16).mono hF21).at hw) hb hlc) (fun w' v hb hr => houseF_mono _ _ _ _ _ _ _ (fresh_at _ _) hr)
    · refine ob_want (s := 55) rfl (fun g w hw hl => ?_)
      obtain ⟨h58, e58, c58, l58, o58⟩ := (show (HouseF ({ h with pa := pa1, pc := pc1 } : H) ps (settleC h.core ps n) (settleP ps n)) (At w) (g 58) from (hl 58 (of_decide_eq_true (by kernel_rfl))).1 (of_decide_eq_true (by kernel_rfl)))
      obtain ⟨h61, e61, c61, l61, o61⟩ := (show (HouseF h ps (settleC h.core ps n) (settleP ps n)) (At w) (g 61) from (hl 61 (of_decide_eq_true (by kernel_rfl))).1 (of_decide_eq_true (by kernel_rfl)))
      have e55 : g 55 = .bool true := (hl 55 (of_decide_eq_true (by kernel_rfl))).1 (of_decide_eq_true (by kernel_rfl))
      refine ⟨e55, ?_⟩
      exact x_call (v := .bool true) (vs := [.agg h58.cells, .agg h61.cells]) (by kernel_rfl) (by show [g 58, g 61] = _; rw [e58, e61]) (by have p58 := outPays (((hp1.mono hF16).mono hF21).at hw) (fun _ _ h => h) (fun _ _ h => h) o58; have p61 := outPays (((hph.mono hF16).mono hF21).at hw) (fun _ _ h => h) (fun _ _ h => h) o61; have hh := gr_SameHouse h58 _ h61 _ w p58 p61 (by rw [← p58.1, settleP_len, hp.1]; omega); rw [same_core (c58.trans c61.symm) (by rw [← p58.1, ← p61.1])] at hh; exact hh) (fun _ => rfl)
    · refine ob_want (s := 47) rfl (fun g w hw hl => ?_)
      have e55 : g 55 = .bool true := (hl 55 (of_decide_eq_true (by kernel_rfl))).1 (of_decide_eq_true (by kernel_rfl))
      have e62 : g 62 = .bool true := (hl 62 (of_decide_eq_true (by kernel_rfl))).1 (of_decide_eq_true (by kernel_rfl))
      have e47 : g 47 = .bool false := (hl 47 (of_decide_eq_true (by kernel_rfl))).1 (of_decide_eq_true (by kernel_rfl))
      refine ⟨e47, ?_⟩
      exact x_val (v_pickT (v := .bool true) e55 rfl e62) hw rfl
    · refine ob_want (s := 47) rfl (fun g w hw hl => ?_)
      have e63 : g 63 = .bool true := (hl 63 (of_decide_eq_true (by kernel_rfl))).1 (of_decide_eq_true (by kernel_rfl))
      have e47 : g 47 = .bool false := (hl 47 (of_decide_eq_true (by kernel_rfl))).1 (of_decide_eq_true (by kernel_rfl))
      refine ⟨e47, ?_⟩
      exact x_val (v_move (v := .bool true) e63) hw rfl
    · refine ob_want (s := 64) rfl (fun g w hw hl => ?_)
      have e7 : g 7 = .pointer (some ⟨b7, 0, none⟩) := (hl 7 (of_decide_eq_true (by kernel_rfl))).2 (of_decide_eq_true (by kernel_rfl))
      have e64 : g 64 = .bool true := (hl 64 (of_decide_eq_true (by kernel_rfl))).1 (of_decide_eq_true (by kernel_rfl))
      refine ⟨e64, ?_⟩
      exact x_val (v_loadA (m := 42) (by kernel_rfl) e7 (.there (.there .here)) (H.size _)) hw rfl
    · refine ob_want (s := 64) rfl (fun g w hw hl => ?_)
      have e3 : g 3 = .pointer (some ⟨b3, 0, none⟩) := (hl 3 (of_decide_eq_true (by kernel_rfl))).2 (of_decide_eq_true (by kernel_rfl))
      have e64 : g 64 = .bool true := (hl 64 (of_decide_eq_true (by kernel_rfl))).1 (of_decide_eq_true (by kernel_rfl))
      refine ⟨e64, ?_⟩
      exact x_val (v_loadA (m := 42) (by kernel_rfl) e3 (.there (.there (.there .here))) (H.size _)) hw rfl
    · refine ob_want (s := 64) rfl (fun g w hw hl => ?_)
      have e65 : g 65 = .agg ({ h with pa := pa1, pc := pc1 } : H).cells := (hl 65 (of_decide_eq_true (by kernel_rfl))).1 (of_decide_eq_true (by kernel_rfl))
      have e66 : g 66 = .agg h.cells := (hl 66 (of_decide_eq_true (by kernel_rfl))).1 (of_decide_eq_true (by kernel_rfl))
      have e64 : g 64 = .bool true := (hl 64 (of_decide_eq_true (by kernel_rfl))).1 (of_decide_eq_true (by kernel_rfl))
      refine ⟨e64, ?_⟩
      exact x_call (v := .bool true) (vs := [.agg ({ h with pa := pa1, pc := pc1 } : H).cells, .agg h.cells]) (by kernel_rfl) (by show [g 65, g 66] = _; rw [e65, e66]) (by have hh := gr_SameHouse ({ h with pa := pa1, pc := pc1 } : H) ps h ps w (((hp1.mono hF16).mono hF21).at hw) (((hph.mono hF16).mono hF21).at hw) (by show h.pl ≤ _; omega); rw [same_core (h := ({ h with pa := pa1, pc := pc1 } : H)) (k := h) rfl rfl] at hh; exact hh) (fun _ => rfl)
    · refine ob_want (s := 47) rfl (fun g w hw hl => ?_)
      have e64 : g 64 = .bool true := (hl 64 (of_decide_eq_true (by kernel_rfl))).1 (of_decide_eq_true (by kernel_rfl))
      have e67 : g 67 = .bool true := (hl 67 (of_decide_eq_true (by kernel_rfl))).1 (of_decide_eq_true (by kernel_rfl))
      have e47 : g 47 = .bool false := (hl 47 (of_decide_eq_true (by kernel_rfl))).1 (of_decide_eq_true (by kernel_rfl))
      refine ⟨e47, ?_⟩
      exact x_val (v_pickT (v := .bool true) e64 rfl e67) hw rfl
    · refine ob_free (fun g w hw hl => ?_)
      have e47 : g 47 = .bool false := (hl 47 (of_decide_eq_true (by kernel_rfl))).1 (of_decide_eq_true (by kernel_rfl))
      have e68 : g 68 = .bool true := (hl 68 (of_decide_eq_true (by kernel_rfl))).1 (of_decide_eq_true (by kernel_rfl))
      exact x_val (v_pickF (v := .bool true) e47 rfl e68) hw rfl
    · refine ob_free (fun g w hw hl => ?_)
      have e69 : g 69 = .bool true := (hl 69 (of_decide_eq_true (by kernel_rfl))).1 (of_decide_eq_true (by kernel_rfl))
      exact x_val (v_assign (v := .bool true) e69) hw rfl
    intro g w hw hd he
    have e6 : g 6 = .bool true := hd 6 (of_decide_eq_true (by kernel_rfl))
    obtain ⟨g1, hg1⟩ : ∃ g1, g = (upd g1 6 (.bool true)) := ⟨g, live1 e6⟩
    rw [hg1]
    refine cC_at ?_ hw
    refine c_ret ?_
    refine n_done rfl (by decide) (Eq.trans (b := .bool _) rfl (congrArg Value.bool ?_))
    rfl
  refine f_seq (T := (row 44 (Eqv (.agg h.cells)) (row 45 (Eqv (.bool false)) (row 46 (Eqv (.bool true)) (row 47 (Eqv (.bool true)) (row 48 (Eqv (undef)) (row 49 (Eqv (undef)) (row 50 (Eqv (undef)) (row 51 (Eqv (undef)) (row 52 (Eqv (undef)) (row 53 (Eqv (undef)) (row 54 (Eqv (undef)) (row 55 (Eqv (undef)) (row 56 (Eqv (undef)) (row 57 (Eqv (undef)) (row 58 (Eqv (undef)) (row 59 (Eqv (undef)) (row 60 (Eqv (undef)) (row 61 (Eqv (undef)) (row 62 (Eqv (undef)) (row 63 (Eqv (undef)) (row 64 (Eqv (undef)) (row 65 (Eqv (undef)) (row 66 (Eqv (undef)) (row 67 (Eqv (undef)) (row 68 (Eqv (undef)) (row 69 (Eqv (.bool true)) (row 6 (Eqv (.bool true)) (fun _ => Any))))))))))))))))))))))))))))) (by kernel_rfl) (by kernel_rfl) (by kernel_rfl) (row_mono (eqv_mono _) (row_mono (eqv_mono _) (row_mono (eqv_mono _) (row_mono (eqv_mono _) (row_mono (eqv_mono _) (row_mono (eqv_mono _) (row_mono (eqv_mono _) (row_mono (eqv_mono _) (row_mono (eqv_mono _) (row_mono (eqv_mono _) (row_mono (eqv_mono _) (row_mono (eqv_mono _) (row_mono (eqv_mono _) (row_mono (eqv_mono _) (row_mono (eqv_mono _) (row_mono (eqv_mono _) (row_mono (eqv_mono _) (row_mono (eqv_mono _) (row_mono (eqv_mono _) (row_mono (eqv_mono _) (row_mono (eqv_mono _) (row_mono (eqv_mono _) (row_mono (eqv_mono _) (row_mono (eqv_mono _) (row_mono (eqv_mono _) (row_mono (eqv_mono _) (row_mono (eqv_mono _) (fun _ => any_mono)))))))))))))))))))))))))))) ⟨?_, ?_, ?_, ?_, ?_, ?_, ?_, ?_, ?_, ?_, ?_, ?_, ?_, ?_, ?_, ?_, ?_, ?_, ?_, ?_, ?_, ?_, ?_, ?_, ?_, ?_, ?_, trivial⟩ ?_
  · refine ob_free (fun g w hw hl => ?_)
    have e3 : g 3 = .pointer (some ⟨b3, 0, none⟩) := (hl 3 (of_decide_eq_true (by kernel_rfl))).2 (of_decide_eq_true (by kernel_rfl))
    exact x_val (v_loadA (m := 42) (by kernel_rfl) e3 (.there (.there (.there .here))) (H.size _)) hw rfl
  · refine ob_free (fun g w hw hl => ?_)
    have e44 : g 44 = .agg h.cells := (hl 44 (of_decide_eq_true (by kernel_rfl))).1 (of_decide_eq_true (by kernel_rfl))
    exact x_call (v := .bool false) (vs := [.agg h.cells]) (by kernel_rfl) (by show [g 44] = _; rw [e44]) (by have hh := gr_IsHouse h ps w (((hph.mono hF16).mono hF21).at hw) hb hlc; rw [hIs] at hh; exact hh) (fun _ => rfl)
  · refine ob_free (fun g w hw hl => ?_)
    have e45 : g 45 = .bool false := (hl 45 (of_decide_eq_true (by kernel_rfl))).1 (of_decide_eq_true (by kernel_rfl))
    exact x_val (v_not e45) hw rfl
  · refine ob_free (fun g w hw hl => ?_)
    have e46 : g 46 = .bool true := (hl 46 (of_decide_eq_true (by kernel_rfl))).1 (of_decide_eq_true (by kernel_rfl))
    exact x_val (v_move (v := .bool true) e46) hw rfl
  · refine ob_pass (s := 47) (c := true) rfl (fun g w hw hl => ⟨(hl 47 (of_decide_eq_true (by kernel_rfl))).1 (of_decide_eq_true (by kernel_rfl)), rfl, fun _ => rfl⟩)
  · refine ob_pass (s := 47) (c := true) rfl (fun g w hw hl => ⟨(hl 47 (of_decide_eq_true (by kernel_rfl))).1 (of_decide_eq_true (by kernel_rfl)), rfl, fun _ => rfl⟩)
  · refine ob_pass (s := 47) (c := true) rfl (fun g w hw hl => ⟨(hl 47 (of_decide_eq_true (by kernel_rfl))).1 (of_decide_eq_true (by kernel_rfl)), rfl, fun _ => rfl⟩)
  · refine ob_pass (s := 47) (c := true) rfl (fun g w hw hl => ⟨(hl 47 (of_decide_eq_true (by kernel_rfl))).1 (of_decide_eq_true (by kernel_rfl)), rfl, fun _ => rfl⟩)
  · refine ob_pass (s := 47) (c := true) rfl (fun g w hw hl => ⟨(hl 47 (of_decide_eq_true (by kernel_rfl))).1 (of_decide_eq_true (by kernel_rfl)), rfl, fun _ => rfl⟩)
  · refine ob_pass (s := 47) (c := true) rfl (fun g w hw hl => ⟨(hl 47 (of_decide_eq_true (by kernel_rfl))).1 (of_decide_eq_true (by kernel_rfl)), rfl, fun _ => rfl⟩)
  · refine ob_pass (s := 47) (c := true) rfl (fun g w hw hl => ⟨(hl 47 (of_decide_eq_true (by kernel_rfl))).1 (of_decide_eq_true (by kernel_rfl)), rfl, fun _ => rfl⟩)
  · refine ob_pass (s := 47) (c := true) rfl (fun g w hw hl => ⟨(hl 47 (of_decide_eq_true (by kernel_rfl))).1 (of_decide_eq_true (by kernel_rfl)), rfl, fun _ => rfl⟩)
  · refine ob_passU (s := 55) rfl (fun g w hw hl => ⟨(hl 55 (of_decide_eq_true (by kernel_rfl))).1 (of_decide_eq_true (by kernel_rfl)), fun _ => rfl⟩)
  · refine ob_passU (s := 55) rfl (fun g w hw hl => ⟨(hl 55 (of_decide_eq_true (by kernel_rfl))).1 (of_decide_eq_true (by kernel_rfl)), fun _ => rfl⟩)
  · refine ob_passU (s := 55) rfl (fun g w hw hl => ⟨(hl 55 (of_decide_eq_true (by kernel_rfl))).1 (of_decide_eq_true (by kernel_rfl)), fun _ => rfl⟩)
  · refine ob_passU (s := 55) rfl (fun g w hw hl => ⟨(hl 55 (of_decide_eq_true (by kernel_rfl))).1 (of_decide_eq_true (by kernel_rfl)), fun _ => rfl⟩)
  · refine ob_passU (s := 55) rfl (fun g w hw hl => ⟨(hl 55 (of_decide_eq_true (by kernel_rfl))).1 (of_decide_eq_true (by kernel_rfl)), fun _ => rfl⟩)
  · refine ob_passU (s := 55) rfl (fun g w hw hl => ⟨(hl 55 (of_decide_eq_true (by kernel_rfl))).1 (of_decide_eq_true (by kernel_rfl)), fun _ => rfl⟩)
  · refine ob_passU (s := 55) rfl (fun g w hw hl => ⟨(hl 55 (of_decide_eq_true (by kernel_rfl))).1 (of_decide_eq_true (by kernel_rfl)), fun _ => rfl⟩)
  · refine ob_pass (s := 47) (c := true) rfl (fun g w hw hl => ⟨(hl 47 (of_decide_eq_true (by kernel_rfl))).1 (of_decide_eq_true (by kernel_rfl)), rfl, fun _ => rfl⟩)
  · refine ob_pass (s := 47) (c := true) rfl (fun g w hw hl => ⟨(hl 47 (of_decide_eq_true (by kernel_rfl))).1 (of_decide_eq_true (by kernel_rfl)), rfl, fun _ => rfl⟩)
  · refine ob_passU (s := 64) rfl (fun g w hw hl => ⟨(hl 64 (of_decide_eq_true (by kernel_rfl))).1 (of_decide_eq_true (by kernel_rfl)), fun _ => rfl⟩)
  · refine ob_passU (s := 64) rfl (fun g w hw hl => ⟨(hl 64 (of_decide_eq_true (by kernel_rfl))).1 (of_decide_eq_true (by kernel_rfl)), fun _ => rfl⟩)
  · refine ob_passU (s := 64) rfl (fun g w hw hl => ⟨(hl 64 (of_decide_eq_true (by kernel_rfl))).1 (of_decide_eq_true (by kernel_rfl)), fun _ => rfl⟩)
  · refine ob_pass (s := 47) (c := true) rfl (fun g w hw hl => ⟨(hl 47 (of_decide_eq_true (by kernel_rfl))).1 (of_decide_eq_true (by kernel_rfl)), rfl, fun _ => rfl⟩)
  · refine ob_free (fun g w hw hl => ?_)
    have e47 : g 47 = .bool true := (hl 47 (of_decide_eq_true (by kernel_rfl))).1 (of_decide_eq_true (by kernel_rfl))
    exact x_val (v_pickT (v := .bool true) e47 rfl rfl) hw rfl
  · refine ob_free (fun g w hw hl => ?_)
    have e69 : g 69 = .bool true := (hl 69 (of_decide_eq_true (by kernel_rfl))).1 (of_decide_eq_true (by kernel_rfl))
    exact x_val (v_assign (v := .bool true) e69) hw rfl
  intro g w hw hd he
  have e6 : g 6 = .bool true := hd 6 (of_decide_eq_true (by kernel_rfl))
  obtain ⟨g1, hg1⟩ : ∃ g1, g = (upd g1 6 (.bool true)) := ⟨g, live1 e6⟩
  rw [hg1]
  refine cC_at ?_ hw
  refine c_ret ?_
  refine n_done rfl (by decide) (Eq.trans (b := .bool _) rfl (congrArg Value.bool ?_))
  rfl

end Go.Proofs.Ytmkboljfbmlebaa
