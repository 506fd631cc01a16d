/- The law QueueRests. Condition: the payments lie in memory that is known. -/
import Derived.Test.YtbgnmapmiobjcaaW12
import Derived.Test.YtbgnmapmiobjcaaK19
namespace Go.Proofs.Ytbgnmapmiobjcaa
open Go.RowKit
set_option linter.unusedSimpArgs false
set_option linter.unusedVariables false
set_option maxRecDepth 100000
attribute [local irreducible] cC sC nC rC qw

set_option maxHeartbeats 2000000 in
theorem law_QueueRests (h : H) (ps : List PayS) (w : World) (hp : PaysIn (At w) h.pa h.pl ps) (hb : h.pl * 48 ≤ 281474976710656) (hlc : h.pl ≤ h.pc) : Gives Try.prog 6 [.agg h.cells] w (.bool true) := by
  refine gives_of Try.func6 rfl Try.ntmps6 (by simp) ?_
  refine r_seq (by kernel_rfl) ?_
  refine s_box (v := .agg _) rfl (fun b1 => ?_)
  refine s_val (v_assign (v := .bool _) rfl) ?_
  refine s_nil ?_
  refine c_seq ?_
  refine r_seq (by kernel_rfl) ?_
  refine s_val (v_loadA (m := 42) (by kernel_rfl) rfl .here (H.size _)) ?_
  refine s_call (by kernel_rfl) (fun w hw => g_Good _ ps w (hp.at hw)) ?_
  refine s_val (v_not rfl) ?_
  refine s_val (v_move (v := .bool _) rfl) ?_
  refine s_splitN (s := 17) rfl (fun h17 => ?_) (fun h17 => ?_)
  · refine s_pass rfl rfl (congrArg not h17) ?_
    refine s_pass rfl rfl (congrArg not h17) ?_
    refine s_pass rfl rfl (congrArg not h17) ?_
    refine s_val (v_pickT (v := .bool _) rfl (congrArg not h17) rfl) ?_
    refine s_nil ?_
    refine c_condTh rfl rfl rfl ?_
    refine r_seq (by kernel_rfl) ?_
    refine s_call (by kernel_rfl) (fun w hw => gk_queues w) ?_
    refine s_val (v_assign (v := .bool _) rfl) ?_
    refine s_nil ?_
    refine c_ret ?_
    refine n_ret ?_
    refine n_done rfl (by decide) (Eq.trans (b := .bool _) rfl (congrArg Value.bool ?_))
    rfl
  refine s_want rfl rfl (congrArg not h17) ?_
  refine s_val (v_loadA (m := 42) (by kernel_rfl) rfl .here (H.size _)) ?_
  refine s_want rfl rfl (congrArg not h17) ?_
  refine s_call (by kernel_rfl) (fun w hw => gk_roomy _ w) ?_
  refine s_want rfl rfl (congrArg not h17) ?_
  refine s_val (v_not rfl) ?_
  refine s_val (v_pickF (v := .bool _) rfl (congrArg not h17) rfl) ?_
  refine s_nil ?_
  refine c_condN rfl rfl (fun h21 => ?_) (fun h21 => ?_)
  · refine r_seq (by kernel_rfl) ?_
    refine s_call (by kernel_rfl) (fun w hw => gk_queues w) ?_
    refine s_val (v_assign (v := .bool _) rfl) ?_
    refine s_nil ?_
    refine c_ret ?_
    refine n_ret ?_
    refine n_done rfl (by decide) (Eq.trans (b := .bool _) rfl (congrArg Value.bool ?_))
    rfl
  refine c_skip ?_
  refine n_then ?_
  have hgc : goodB h.core ps = true := h17
  have hrc : roomyB h.core = true := h21
  obtain ⟨hG, hsum, hxl⟩ := sweep_room hgc hrc
  refine r_seq (by kernel_rfl) ?_
  refine s_val (v_loadA (m := 42) (by kernel_rfl) rfl .here (H.size _)) ?_
  refine s_callG (by kernel_rfl) (sweepF_mono _ _ _) (fun w hw => g_Sweep h ps w (hp.at hw) hb hlc) (fun F25 v25 hF25 hR25 => ?_)
  obtain ⟨v1, v2, rfl, ⟨h25, rfl, hc25, hl25, ho25⟩, hi25⟩ := hR25
  obtain ⟨a25, c25, rfl, ia25⟩ := hi25.at
  refine s_val (v_move (v := .tuple _) rfl) ?_
  refine s_val (v_extract rfl rfl) ?_
  refine s_val (v_extract rfl rfl) ?_
  refine s_alloc (z := .agg zeroH.cells) (by kernel_rfl) (fun b3 => ?_)
  refine s_storeA (m := 42) (by kernel_rfl) rfl rfl .here (H.size _) (H.size _) (H.all1 _) ?_
  refine s_val (v_assign (v := .slice _ _ _) rfl) ?_
  refine s_nil ?_
  refine c_seq ?_
  have p25 := outPays (F' := F25) hp hF25 (more_young _ _) ho25
  have hpl25 : h25.pl = h.pl := by rw [← p25.1, (sweepM_len _ _).1, hp.1]
  refine r_seq (by kernel_rfl) ?_
  refine s_val (v_move (v := .int .i64 _) rfl) ?_
  refine s_nil ?_
  refine c_block ?_
  refine c_loop (σ := KF) (fun (s : KF) f => ∃ g, (s.k ≤ 4 ∧ More F25 s.F) ∧ f = (upd (upd (upd (upd g 1 (.pointer (some ⟨b1, 0, none⟩))) 3 (.pointer (some ⟨b3, 0, none⟩))) 4 (.slice a25 (sweepM h.core ps).xs.length c25)) 28 (I s.k))) (fun (s : KF) => Has w s.F [(b3, .cells h25.cells 29), (b1, .cells h.cells 29)]) (fun (s : KF) => 4 - s.k) ⟨0, F25⟩ ⟨_, ⟨Nat.zero_le _, fun _ _ h => h⟩, live4 rfl rfl rfl rfl⟩ (fun w hw => hw) ?_
  rintro s _ ⟨g, ⟨hk4', hmo⟩, rfl⟩
  refine r_seq (by kernel_rfl) ?_
  refine s_val (v_lss (k := .i64) rfl rfl) ?_
  refine s_nil ?_
  refine c_seq ?_
  refine c_cond rfl rfl (fun h29 => ?_) (fun h29 => ?_)
  · have hk4 : s.k < 4 := by have := of_decide_eq_true h29; omega
    refine c_skip ?_
    refine n_then ?_
    refine c_seq ?_
    refine c_block ?_
    refine r_seq (by kernel_rfl) ?_
    refine s_val (v_move (v := .int .i64 _) rfl) ?_
    refine s_val (v_assign (v := .int .i64 _) rfl) ?_
    refine s_nil ?_
    refine r_seq (by kernel_rfl) ?_
    refine s_val (v_loadA (m := 42) (by kernel_rfl) rfl .here (H.size _)) ?_
    refine s_val (v_move (v := .int .i64 _) rfl) ?_
    refine s_callF (by kernel_rfl) (fun w hw => g_Of h25 _ s.k w ((p25.mono hmo).at hw) (by omega) hl25 (sweepM_seqs (good_pays hgc).2.1) (.inl ⟨by omega, by omega⟩)) (fun F33 v33 E33 hF33 hK33 hR33 => ?_)
    obtain ⟨a33, c33, rfl, ia33⟩ := (ints_of_list hR33 hK33).at
    refine s_val (v_assign (v := .slice _ _ _) rfl) ?_
    refine s_nil ?_
    refine r_seq (by kernel_rfl) ?_
    refine s_val (v_move (v := .slice _ _ _) rfl) ?_
    refine s_val (v_lenS (T := 43) (m := 1) (by kernel_rfl) rfl rfl) ?_
    refine s_val (v_gtr (k := .i64) rfl rfl) ?_
    refine s_nil ?_
    refine c_condR rfl rfl (fun h36 => ?_) (fun h36 => ?_)
    · refine c_skip ?_
      refine n_bnormal ?_
      refine n_then ?_
      refine r_list (by kernel_rfl) ?_
      refine s_val (v_add rfl rfl (by omega)) ?_
      refine s_val (v_move (v := .int .i64 _) rfl) ?_
      refine s_end ?_
      refine n_round (s := s) ⟨s.k + 1, F33⟩ ⟨_, ⟨by dsimp only; omega, fun a v h => hF33 a v (hmo a v h)⟩, live4 rfl rfl rfl rfl⟩ (fun _ hw => hw) (by dsimp only; omega)
    have hne := of_decide_eq_true h36
    obtain ⟨i, r, hq⟩ : ∃ i r, queueM (sweepM h.core ps).ps s.k = i :: r := by
      cases hq : queueM (sweepM h.core ps).ps s.k with
      | nil => rw [hq] at hne; exact absurd hne (by decide)
      | cons i r => exact ⟨i, r, rfl⟩
    obtain ⟨bq, oq, rfl, hel⟩ := ia33.resolve_left (by rw [hq]; simp)
    have hi0 := hel 0 i (by rw [hq]; rfl)
    have hlen : (0 : Int) < ((queueM (sweepM h.core ps).ps s.k).length : Int) := by rw [hq]; simp only [List.length_cons]; omega
    obtain ⟨p, hst, hpi, hsta, hsrc⟩ := (queueM_mine (show i ∈ queueM (sweepM h.core ps).ps s.k by rw [hq]; simp)).settles
    have hi1 := (settles_spec hst).1
    have hilt : i.toNat < h25.pl := by have := (List.getElem?_eq_some_iff.1 hpi).1; have := p25.1; omega
    obtain ⟨bp, op, hpa, hc⟩ := (p25.mono (fun a v h => hF33 a v (hmo a v h))).some hilt
    refine c_seq ?_
    refine a_list (k := 7) (z := zeroOf Try.prog 36) (by kernel_rfl) rfl (by kernel_rfl) (by kernel_rfl) (by kernel_rfl) (by kernel_rfl) (by kernel_rfl) ?_
    refine u_val (v_field (fo := 40) (by kernel_rfl) rfl) ?_
    refine u_val (v_load1 (v := .slice _ _ _) (by kernel_rfl) rfl .here (H.at_pays _)) ?_
    refine u_val (v_move (v := .slice _ _ _) rfl) ?_
    refine u_val (v_idxS (size := 1) (k := .i64) (by kernel_rfl) rfl rfl ⟨by decide, hlen⟩) ?_
    refine u_val (v_load1o (v := I i) (by kernel_rfl) rfl hi0) ?_
    refine u_val (v_idxS (size := 6) (k := .i64) (by kernel_rfl) (congrArg (fun a => Value.slice a h25.pl h25.pc) hpa) rfl ⟨by omega, by omega⟩) ?_
    refine u_val (v_loadNo (cs := p.cells) (m := 6) (by kernel_rfl) rfl rfl (hc _ p hpi)) ?_
    refine u_end (fun b7 => ?_)
    refine s_storeA (m := 6) (by kernel_rfl) rfl rfl .here (by kernel_rfl) rfl (PayS.all1 _) ?_
    refine s_end ?_
    refine n_then ?_
    refine r_seq (by kernel_rfl) ?_
    refine s_val (v_loadA (m := 42) (by kernel_rfl) rfl (.there .here) (H.size _)) ?_
    refine s_val (v_field (fo := 0) (by kernel_rfl) rfl) ?_
    refine s_val (v_load1 (v := .int .i64 _) (by kernel_rfl) rfl .here rfl) ?_
    refine s_val (v_field (fo := 1) (by kernel_rfl) rfl) ?_
    refine s_val (v_load1 (v := .int .i64 _) (by kernel_rfl) rfl .here rfl) ?_
    refine s_val (v_field (fo := 2) (by kernel_rfl) rfl) ?_
    refine s_val (v_load1 (v := .int .i64 _) (by kernel_rfl) rfl .here rfl) ?_
    refine s_call (by kernel_rfl) (fun w hw => g_May _ _ _ _ w) ?_
    refine s_nil ?_
    refine c_condFh rfl rfl ((may_of_core (by rw [hc25]; exact hG) _ _ _).trans (by rw [hsrc, hc25]; exact rest_may (sweepM_rests hgc s.k hk4) hq hpi)) ?_
    refine c_skip ?_
    refine n_bnormal ?_
    refine n_then ?_
    refine r_list (by kernel_rfl) ?_
    refine s_val (v_add rfl rfl (by omega)) ?_
    refine s_val (v_move (v := .int .i64 _) rfl) ?_
    refine s_end ?_
    refine n_round (s := s) ⟨s.k + 1, F33⟩ ⟨_, ⟨by dsimp only; omega, fun a v h => hF33 a v (hmo a v h)⟩, live4 rfl rfl rfl rfl⟩ (fun _ hw => hw.tail) (by dsimp only; omega)
  refine c_exit ?_
  refine n_exit ?_
  refine n_exit ?_
  refine n_bhere ?_
  refine n_then ?_
  refine r_seq (by kernel_rfl) ?_
  refine s_val (v_loadA (m := 42) (by kernel_rfl) rfl (.there .here) (H.size _)) ?_
  refine s_alloc (z := .agg zeroH.cells) (by kernel_rfl) (fun b8 => ?_)
  refine s_storeA (m := 42) (by kernel_rfl) rfl rfl .here (H.size _) (H.size _) (H.all1 _) ?_
  refine s_nil ?_
  refine c_seq ?_
  have ia25' := (ia25.mono (more_young _ _)).mono hmo
  refine r_seq (by kernel_rfl) ?_
  refine s_val (v_move (v := .slice _ _ _) rfl) ?_
  refine s_val (v_lenS (T := 43) (m := 1) (by kernel_rfl) rfl rfl) ?_
  refine s_val (v_move (v := .int .i64 _) rfl) ?_
  refine s_nil ?_
  refine c_block ?_
  refine c_loop (σ := RG) (fun (t : RG) f => ∃ g, (RgOk s.F (sweepM h.core ps) h.pl t) ∧ f = (upd (upd (upd (upd (upd (upd g 1 (.pointer (some ⟨b1, 0, none⟩))) 3 (.pointer (some ⟨b3, 0, none⟩))) 8 (.pointer (some ⟨b8, 0, none⟩))) 54 (.slice a25 (sweepM h.core ps).xs.length c25)) 55 (I (sweepM h.core ps).xs.length)) 56 (I t.k))) (fun (t : RG) => Has w t.F [(b8, .cells t.y.cells 29), (b3, .cells h25.cells 29), (b1, .cells h.cells 29)]) (fun (t : RG) => (sweepM h.core ps).xs.length - t.k) ⟨0, s.F, h, ps⟩ ⟨_, rg_start (w := w) hgc hrc (hp.mono (fun a v h => hmo a v (hF25 a v h))) hlc, live6 rfl rfl rfl rfl rfl rfl⟩ (fun w hw => hw) ?_
  rintro t _ ⟨g, ho, rfl⟩
  refine r_seq (by kernel_rfl) ?_
  refine s_val (v_lss (k := .i64) rfl rfl) ?_
  refine s_nil ?_
  refine c_seq ?_
  refine c_cond rfl rfl (fun h57 => ?_) (fun h57 => ?_)
  · have hk0 := of_decide_eq_true h57
    obtain ⟨bq, oq, n, ha25, hn, hfn⟩ := ia25'.get (j := t.k) (by omega)
    obtain ⟨p, r, hn0, hn1, hpn, hst, hq, hmay, hdr⟩ := ho.step hxl hn
    have hnlt : n.toNat < t.y.pl := by have := ho.len; omega
    obtain ⟨bp, op, hpa, hc⟩ := ho.pays.some hnlt
    have hlent := ho.len
    refine c_skip ?_
    refine n_then ?_
    refine c_seq ?_
    refine c_block ?_
    refine r_seq (by kernel_rfl) ?_
    refine s_val (v_idxS (size := 1) (k := .i64) (by kernel_rfl) (congrArg (fun a => Value.slice a (sweepM h.core ps).xs.length c25) ha25) rfl ⟨by omega, by omega⟩) ?_
    refine s_val (v_load1o (v := I n) (by kernel_rfl) rfl (by simpa using ho.more _ _ hfn)) ?_
    refine s_val (v_assign (v := .int .i64 _) rfl) ?_
    refine s_nil ?_
    refine c_seq ?_
    refine r_seq (by kernel_rfl) ?_
    refine s_val (v_move (v := .int .i64 _) rfl) ?_
    refine s_val (v_lss (k := .i64) rfl rfl) ?_
    refine s_val (v_move (v := .bool _) rfl) ?_
    refine s_want rfl rfl (decide_eq_false (by omega)) ?_
    refine s_val (v_move (v := .int .i64 _) rfl) ?_
    refine s_want rfl rfl (decide_eq_false (by omega)) ?_
    refine s_val (v_field (fo := 40) (by kernel_rfl) rfl) ?_
    refine s_want rfl rfl (decide_eq_false (by omega)) ?_
    refine s_val (v_load1 (v := .slice _ _ _) (by kernel_rfl) rfl .here (H.at_pays _)) ?_
    refine s_want rfl rfl (decide_eq_false (by omega)) ?_
    refine s_val (v_lenS (T := 27) (m := 6) (by kernel_rfl) rfl rfl) ?_
    refine s_want rfl rfl (decide_eq_false (by omega)) ?_
    refine s_val (v_geq (k := .i64) rfl rfl) ?_
    refine s_val (v_pickF (v := .bool _) rfl (decide_eq_false (by omega)) rfl) ?_
    refine s_nil ?_
    refine c_condFh rfl rfl (decide_eq_false (by omega)) ?_
    refine c_skip ?_
    refine n_then ?_
    refine r_seq (by kernel_rfl) ?_
    refine s_val (v_field (fo := 40) (by kernel_rfl) rfl) ?_
    refine s_val (v_load1 (v := .slice _ _ _) (by kernel_rfl) rfl .here (H.at_pays _)) ?_
    refine s_val (v_move (v := .int .i64 _) rfl) ?_
    refine s_val (v_idxS (size := 6) (k := .i64) (by kernel_rfl) (congrArg (fun a => Value.slice a t.y.pl t.y.pc) hpa) rfl ⟨by omega, by omega⟩) ?_
    refine s_val (v_loadNo (cs := p.cells) (m := 6) (by kernel_rfl) rfl rfl (hc _ p hpn)) ?_
    refine s_alloc (z := zeroOf Try.prog 36) (by kernel_rfl) (fun b11 => ?_)
    refine s_storeA (m := 6) (by kernel_rfl) rfl rfl .here (by kernel_rfl) rfl (PayS.all1 _) ?_
    refine s_nil ?_
    refine r_seq (by kernel_rfl) ?_
    refine s_val (v_loadA (m := 42) (by kernel_rfl) rfl (.there .here) (H.size _)) ?_
    refine s_val (v_field (fo := 0) (by kernel_rfl) rfl) ?_
    refine s_val (v_load1 (v := .int .i64 _) (by kernel_rfl) rfl .here rfl) ?_
    refine s_callF (by kernel_rfl) (fun w hw => g_Of t.y t.ps p.src w (ho.pays.at hw) (by omega) ho.lc ho.seqs (.inr ho.good)) (fun F77 v77 E77 hF77 hK77 hR77 => ?_)
    obtain ⟨a77, c77, rfl, ia77⟩ := (ints_of_list hR77 hK77).at
    obtain ⟨bz, oz, rfl, hez⟩ := ia77.resolve_left (by rw [hq]; simp)
    have hz0 := hez 0 n (by rw [hq]; rfl)
    have hlenz : (0 : Int) < ((queueM t.ps p.src).length : Int) := by rw [hq]; simp only [List.length_cons]; omega
    refine s_val (v_assign (v := .slice _ _ _) rfl) ?_
    refine s_nil ?_
    refine c_seq ?_
    refine r_seq (by kernel_rfl) ?_
    refine s_val (v_move (v := .slice _ _ _) rfl) ?_
    refine s_val (v_lenS (T := 43) (m := 1) (by kernel_rfl) rfl rfl) ?_
    refine s_val (v_eql (k := .i64) rfl rfl) ?_
    refine s_val (v_move (v := .bool _) rfl) ?_
    refine s_want rfl rfl (decide_eq_false (by omega)) ?_
    refine s_val (v_move (v := .slice _ _ _) rfl) ?_
    refine s_want rfl rfl (decide_eq_false (by omega)) ?_
    refine s_val (v_idxS (size := 1) (k := .i64) (by kernel_rfl) rfl rfl ⟨by decide, hlenz⟩) ?_
    refine s_want rfl rfl (decide_eq_false (by omega)) ?_
    refine s_val (v_load1o (v := I n) (by kernel_rfl) rfl hz0) ?_
    refine s_want rfl rfl (decide_eq_false (by omega)) ?_
    refine s_val (v_move (v := .int .i64 _) rfl) ?_
    refine s_want rfl rfl (decide_eq_false (by omega)) ?_
    refine s_val (v_neq (k := .i64) rfl rfl) ?_
    refine s_val (v_pickF (v := .bool _) rfl (decide_eq_false (by omega)) rfl) ?_
    refine s_val (v_move (v := .bool _) rfl) ?_
    refine s_want rfl rfl (congrArg not (decide_eq_true rfl)) ?_
    refine s_val (v_loadA (m := 42) (by kernel_rfl) rfl (.there .here) (H.size _)) ?_
    refine s_want rfl rfl (congrArg not (decide_eq_true rfl)) ?_
    refine s_val (v_field (fo := 0) (by kernel_rfl) rfl) ?_
    refine s_want rfl rfl (congrArg not (decide_eq_true rfl)) ?_
    refine s_val (v_load1 (v := .int .i64 _) (by kernel_rfl) rfl .here rfl) ?_
    refine s_want rfl rfl (congrArg not (decide_eq_true rfl)) ?_
    refine s_val (v_field (fo := 1) (by kernel_rfl) rfl) ?_
    refine s_want rfl rfl (congrArg not (decide_eq_true rfl)) ?_
    refine s_val (v_load1 (v := .int .i64 _) (by kernel_rfl) rfl .here rfl) ?_
    refine s_want rfl rfl (congrArg not (decide_eq_true rfl)) ?_
    refine s_val (v_field (fo := 2) (by kernel_rfl) rfl) ?_
    refine s_want rfl rfl (congrArg not (decide_eq_true rfl)) ?_
    refine s_val (v_load1 (v := .int .i64 _) (by kernel_rfl) rfl .here rfl) ?_
    refine s_want rfl rfl (congrArg not (decide_eq_true rfl)) ?_
    refine s_call (by kernel_rfl) (fun w hw => g_May _ _ _ _ w) ?_
    refine s_want rfl rfl (congrArg not (decide_eq_true rfl)) ?_
    refine s_val (v_not rfl) ?_
    refine s_val (v_pickF (v := .bool _) rfl (congrArg not (decide_eq_true rfl)) rfl) ?_
    refine s_nil ?_
    refine c_condFh rfl rfl (congrArg not hmay) ?_
    refine c_skip ?_
    refine n_then ?_
    refine r_list (by kernel_rfl) ?_
    refine s_val (v_loadA (m := 42) (by kernel_rfl) rfl (.there .here) (H.size _)) ?_
    refine s_val (v_move (v := .int .i64 _) rfl) ?_
    refine s_callG (by kernel_rfl) (houseF_mono _ _ _ _) (fun w hw => g_Settle t.y t.ps n w ((ho.pays.mono hF77).at hw) (by omega) ho.lc) (fun F101 v101 hF101 hR101 => ?_)
    obtain ⟨h101, rfl, hco101, hlc101, hpo101⟩ := hR101
    have p101 := outPays (F' := F101) (ho.pays.mono hF77) hF101 (more_young _ _) hpo101
    refine s_storeA (m := 42) (by kernel_rfl) rfl rfl (.there .here) (H.size _) (H.size _) (H.all1 _) ?_
    refine s_end ?_
    refine n_bnormal ?_
    refine n_then ?_
    refine r_list (by kernel_rfl) ?_
    refine s_val (v_add rfl rfl (by omega)) ?_
    refine s_val (v_move (v := .int .i64 _) rfl) ?_
    refine s_end ?_
    refine n_round (s := t) ⟨t.k + 1, F101, h101, settleP t.ps n⟩ ⟨_, ho.next hxl hdr hst (fun a v h => hF101 a v (hF77 a v h)) hco101 hlc101 p101, live6 rfl rfl rfl rfl rfl rfl⟩ (fun _ hw => hw.tail) (by dsimp only; omega)
  obtain ⟨hyc, hyp⟩ := ho.fin (of_decide_eq_false h57)
  have hlent := ho.len
  refine c_exit ?_
  refine n_exit ?_
  refine n_exit ?_
  refine n_bhere ?_
  refine n_then ?_
  refine c_seq ?_
  refine d_seq (by kernel_rfl) (by kernel_rfl) (fun w hw => hw.drew) (by kernel_rfl) ?_
  refine q_val (v_field (fo := 0) (by kernel_rfl) rfl) ?_
  refine q_val (v_loadN (m := 8) (cs' := accA _ _) (by kernel_rfl) rfl .here (accA_size _ _) (H.ex_acc _)) ?_
  refine q_val (v_field (fo := 0) (by kernel_rfl) rfl) ?_
  refine q_val (v_loadN (m := 8) (cs' := accA _ _) (by kernel_rfl) rfl (.there .here) (accA_size _ _) (H.ex_acc _)) ?_
  refine q_val (v_neqFlat (n := 8) _ _ (by kernel_rfl) rfl rfl (accA_list _ _) (accA_list _ _) rfl rfl) ?_
  refine q_val (v_move (v := .bool _) rfl) ?_
  refine q_want rfl rfl (congrArg not (decide_eq_true (core_acc (hyc.trans hc25.symm)).1)) ?_
  refine q_val (v_field (fo := 8) (by kernel_rfl) rfl) ?_
  refine q_want rfl rfl (congrArg not (decide_eq_true (core_acc (hyc.trans hc25.symm)).1)) ?_
  refine q_val (v_loadN (m := 16) (cs' := matA _) (by kernel_rfl) rfl .here (matA_size _) (H.ex_sent _)) ?_
  refine q_want rfl rfl (congrArg not (decide_eq_true (core_acc (hyc.trans hc25.symm)).1)) ?_
  refine q_val (v_field (fo := 8) (by kernel_rfl) rfl) ?_
  refine q_want rfl rfl (congrArg not (decide_eq_true (core_acc (hyc.trans hc25.symm)).1)) ?_
  refine q_val (v_loadN (m := 16) (cs' := matA _) (by kernel_rfl) rfl (.there .here) (matA_size _) (H.ex_sent _)) ?_
  refine q_want rfl rfl (congrArg not (decide_eq_true (core_acc (hyc.trans hc25.symm)).1)) ?_
  refine q_val (v_neqFlat (n := 16) _ _ (by kernel_rfl) rfl rfl (matA_list _) (matA_list _) rfl rfl) ?_
  refine q_val (v_pickF (v := .bool _) rfl (congrArg not (decide_eq_true (core_acc (hyc.trans hc25.symm)).1)) rfl) ?_
  refine q_val (v_move (v := .bool _) rfl) ?_
  refine q_want rfl rfl (congrArg not (decide_eq_true (core_acc (hyc.trans hc25.symm)).2)) ?_
  refine q_val (v_field (fo := 40) (by kernel_rfl) rfl) ?_
  refine q_want rfl rfl (congrArg not (decide_eq_true (core_acc (hyc.trans hc25.symm)).2)) ?_
  refine q_val (v_load1 (v := .slice _ _ _) (by kernel_rfl) rfl .here (H.at_pays _)) ?_
  refine q_want rfl rfl (congrArg not (decide_eq_true (core_acc (hyc.trans hc25.symm)).2)) ?_
  refine q_val (v_lenS (T := 27) (m := 6) (by kernel_rfl) rfl rfl) ?_
  refine q_want rfl rfl (congrArg not (decide_eq_true (core_acc (hyc.trans hc25.symm)).2)) ?_
  refine q_val (v_field (fo := 40) (by kernel_rfl) rfl) ?_
  refine q_want rfl rfl (congrArg not (decide_eq_true (core_acc (hyc.trans hc25.symm)).2)) ?_
  refine q_val (v_load1 (v := .slice _ _ _) (by kernel_rfl) rfl (.there .here) (H.at_pays _)) ?_
  refine q_want rfl rfl (congrArg not (decide_eq_true (core_acc (hyc.trans hc25.symm)).2)) ?_
  refine q_val (v_lenS (T := 27) (m := 6) (by kernel_rfl) rfl rfl) ?_
  refine q_want rfl rfl (congrArg not (decide_eq_true (core_acc (hyc.trans hc25.symm)).2)) ?_
  refine q_val (v_neq (k := .i64) rfl rfl) ?_
  refine q_val (v_pickF (v := .bool _) rfl (congrArg not (decide_eq_true (core_acc (hyc.trans hc25.symm)).2)) rfl) ?_
  refine q_val (v_move (v := .bool _) rfl) ?_
  refine q_want rfl rfl (congrArg not (decide_eq_true (by rw [hlent, hpl25]))) ?_
  refine q_val (v_loadA (m := 42) (by kernel_rfl) rfl (.there .here) (H.size _)) ?_
  refine q_want rfl rfl (congrArg not (decide_eq_true (by rw [hlent, hpl25]))) ?_
  refine q_call (by kernel_rfl) (fun w hw => g_Sum _ w) ?_
  refine q_want rfl rfl (congrArg not (decide_eq_true (by rw [hlent, hpl25]))) ?_
  refine q_val (v_loadA (m := 42) (by kernel_rfl) rfl (.there (.there .here)) (H.size _)) ?_
  refine q_want rfl rfl (congrArg not (decide_eq_true (by rw [hlent, hpl25]))) ?_
  refine q_call (by kernel_rfl) (fun w hw => g_Sum _ w) ?_
  refine q_want rfl rfl (congrArg not (decide_eq_true (by rw [hlent, hpl25]))) ?_
  refine q_val (v_neq (k := .i64) rfl rfl) ?_
  refine q_val (v_pickF (v := .bool _) rfl (congrArg not (decide_eq_true (by rw [hlent, hpl25]))) rfl) ?_
  refine q_nil ?_
  refine c_condFh rfl rfl (congrArg not (decide_eq_true (((sum_core h25).symm.trans (by rw [hc25])).trans hsum))) ?_
  refine c_skip ?_
  refine n_then ?_
  refine c_seq ?_
  refine r_seq (by kernel_rfl) ?_
  refine s_val (v_field (fo := 40) (by kernel_rfl) rfl) ?_
  refine s_val (v_load1 (v := .slice _ _ _) (by kernel_rfl) rfl (.there .here) (H.at_pays _)) ?_
  refine s_val (v_lenS (T := 27) (m := 6) (by kernel_rfl) rfl rfl) ?_
  refine s_val (v_move (v := .int .i64 _) rfl) ?_
  refine s_nil ?_
  refine c_block ?_
  refine c_loop (σ := Nat) (fun (j : Nat) f => ∃ g, (j ≤ h25.pl) ∧ f = (upd (upd (upd (upd (upd g 1 (.pointer (some ⟨b1, 0, none⟩))) 3 (.pointer (some ⟨b3, 0, none⟩))) 8 (.pointer (some ⟨b8, 0, none⟩))) 133 (I h25.pl)) 134 (I j))) (fun (j : Nat) => Has w t.F [(b8, .cells t.y.cells 29), (b3, .cells h25.cells 29), (b1, .cells h.cells 29)]) (fun (j : Nat) => h25.pl - j) 0 ⟨_, Nat.zero_le _, live5 rfl rfl rfl rfl rfl⟩ (fun w hw => hw) ?_
  rintro j _ ⟨g, hjl, rfl⟩
  refine r_seq (by kernel_rfl) ?_
  refine s_val (v_lss (k := .i64) rfl rfl) ?_
  refine s_nil ?_
  refine c_seq ?_
  refine c_condR rfl rfl (fun h135 => ?_) (fun h135 => ?_)
  · refine c_exit ?_
    refine n_exit ?_
    refine n_exit ?_
    refine n_bhere ?_
    refine n_then ?_
    refine r_seq (by kernel_rfl) ?_
    refine s_call (by kernel_rfl) (fun w hw => gk_queues w) ?_
    refine s_val (v_assign (v := .bool _) rfl) ?_
    refine s_nil ?_
    refine c_ret ?_
    refine n_done rfl (by decide) (Eq.trans (b := .bool _) rfl (congrArg Value.bool ?_))
    rfl
  have hj0 := of_decide_eq_true h135
  obtain ⟨p, hpj, _, _⟩ := p25.get (k := j) (by omega)
  obtain ⟨bx, ox, hpx, hcx⟩ := (p25.mono (fun a v h => ho.more a v (hmo a v h))).some (k := j) (by omega)
  obtain ⟨by_, oy, hpy, hcy⟩ := ho.pays.some (k := j) (by omega)
  refine c_skip ?_
  refine n_then ?_
  refine c_seq ?_
  refine c_block ?_
  refine r_seq (by kernel_rfl) ?_
  refine s_val (v_move (v := .int .i64 _) rfl) ?_
  refine s_val (v_assign (v := .int .i64 _) rfl) ?_
  refine s_nil ?_
  refine d_seq (by kernel_rfl) (by kernel_rfl) (fun w hw => hw.drew) (by kernel_rfl) ?_
  refine q_val (v_field (fo := 40) (by kernel_rfl) rfl) ?_
  refine q_val (v_load1 (v := .slice _ _ _) (by kernel_rfl) rfl (.there .here) (H.at_pays _)) ?_
  refine q_val (v_move (v := .int .i64 _) rfl) ?_
  refine q_val (v_idxS (size := 6) (k := .i64) (by kernel_rfl) (congrArg (fun a => Value.slice a h25.pl h25.pc) hpx) rfl ⟨by omega, by omega⟩) ?_
  refine q_val (v_loadNo (cs := p.cells) (m := 6) (by kernel_rfl) rfl rfl (hcx j p hpj)) ?_
  refine q_val (v_field (fo := 40) (by kernel_rfl) rfl) ?_
  refine q_val (v_load1 (v := .slice _ _ _) (by kernel_rfl) rfl .here (H.at_pays _)) ?_
  refine q_val (v_move (v := .int .i64 _) rfl) ?_
  refine q_val (v_idxS (size := 6) (k := .i64) (by kernel_rfl) (congrArg (fun a => Value.slice a t.y.pl t.y.pc) hpy) rfl ⟨by omega, by omega⟩) ?_
  refine q_val (v_loadNo (cs := p.cells) (m := 6) (by kernel_rfl) rfl rfl (hcy j p (by rw [hyp]; exact hpj))) ?_
  refine q_val (v_neqFlat (n := 6) _ _ (by kernel_rfl) rfl rfl (PayS.cells_list _) (PayS.cells_list _) rfl rfl) ?_
  refine q_nil ?_
  refine c_condFh rfl rfl (congrArg not (decide_eq_true rfl)) ?_
  refine c_skip ?_
  refine n_bnormal ?_
  refine n_then ?_
  refine r_list (by kernel_rfl) ?_
  refine s_val (v_add rfl rfl (by omega)) ?_
  refine s_val (v_move (v := .int .i64 _) rfl) ?_
  refine s_end ?_
  refine n_round (j + 1) ⟨_, (by omega), live5 rfl rfl rfl rfl rfl⟩ (fun _ hw => hw) (by omega)

end Go.Proofs.Ytbgnmapmiobjcaa
