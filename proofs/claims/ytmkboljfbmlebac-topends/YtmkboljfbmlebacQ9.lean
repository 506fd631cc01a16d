/- What the laws of this place stand on, part 9. Each part names its own conditions in what it states. -/
import Derived.Test.YtmkboljfbmlebacQ8
namespace Go.Proofs.Ytmkboljfbmlebac
open Go.RowKit
set_option linter.unusedSimpArgs false
set_option linter.unusedVariables false
set_option maxRecDepth 100000
attribute [local irreducible] cC sC nC rC qw
theorem gx_Of (h : H) (ps : List PayS) (bank : Int) (w : World) (hp : PaysIn (At w) h.pa h.pl ps) (hb : h.pl * 48 ≤ 281474976710656) (hlc : h.pl ≤ h.pc) (hbk : 0 ≤ bank ∧ bank < 4) : GivesE Try.prog 68 [.agg h.cells, I bank] w (fun v E => ∃ ws, ListE 3 1 v ws.length (ws.map I) E ∧ (SeqsApart ps → ws = queueM ps bank)) := by
 refine givesE_of Try.func68 rfl Try.ntmps68 (by simp) ?_
 refine r_seq (by kernel_rfl) ?_
 refine s_box (v := .agg _) rfl (fun b2 => ?_)
 refine s_val (v_assign (v := .slice _ _ _) rfl) ?_
 refine s_nil ?_
 refine c_seq ?_
 refine r_seq (by kernel_rfl) ?_
 refine s_val (v_move (v := .int .i64 _) rfl) ?_
 refine s_val (v_lss (k := .i64) rfl rfl) ?_
 refine s_val (v_move (v := .bool _) rfl) ?_
 refine s_split (s := 10) rfl (fun h10 => ?_) (fun h10 => ?_)
 · refine s_pass rfl rfl h10 ?_
   refine s_pass rfl rfl h10 ?_
   refine s_val (v_pickT (v := .bool _) rfl h10 rfl) ?_
   refine s_nil ?_
   refine c_condTh rfl rfl rfl ?_
   refine r_seq (by kernel_rfl) ?_
   refine s_val (v_assign (v := .slice _ _ _) rfl) ?_
   refine s_nil ?_
   refine c_ret ?_
   refine n_ret ?_
   exfalso
   have := of_decide_eq_true h10
   omega
 refine s_want rfl rfl h10 ?_
 refine s_val (v_move (v := .int .i64 _) rfl) ?_
 refine s_want rfl rfl h10 ?_
 refine s_val (v_geq (k := .i64) rfl rfl) ?_
 refine s_val (v_pickF (v := .bool _) rfl h10 rfl) ?_
 refine s_nil ?_
 refine c_cond rfl rfl (fun h13 => ?_) (fun h13 => ?_)
 · refine r_seq (by kernel_rfl) ?_
   refine s_val (v_assign (v := .slice _ _ _) rfl) ?_
   refine s_nil ?_
   refine c_ret ?_
   refine n_ret ?_
   exfalso
   have := of_decide_eq_true h13
   omega
 refine c_skip ?_
 refine n_then ?_
 refine r_seq (by kernel_rfl) ?_
 refine s_val (v_assign (v := .slice _ _ _) rfl) ?_
 refine s_nil ?_
 refine c_seq ?_
 refine r_seq (by kernel_rfl) ?_
 refine s_val (v_field (fo := 40) (by kernel_rfl) rfl) ?_
 refine s_val (v_load1 (v := .slice _ _ _) (by kernel_rfl) rfl .here (H.at_pays _)) ?_
 refine s_val (v_lenS (T := 45) (m := 6) (by kernel_rfl) rfl rfl) ?_
 refine s_val (v_move (v := .int .i64 _) rfl) ?_
 refine s_nil ?_
 refine c_block ?_
 refine c_loop (σ := Nat × Value × List (Nat × Obj)) (fun ((k, v, E) : Nat × Value × List (Nat × Obj)) f => ∃ g, (k ≤ h.pl ∧ ListE 3 1 v (waitTo ps bank k).length ((waitTo ps bank k).map I) E) ∧ f = (upd (upd (upd (upd (upd (upd g 1 (I bank)) 2 (.pointer (some ⟨b2, 0, none⟩))) 5 (v)) 15 (.slice h.pa h.pl h.pc)) 16 (I h.pl)) 17 (I k))) (fun ((k, v, E) : Nat × Value × List (Nat × Obj)) => Has w (At w) (E ++ [(b2, .cells h.cells 47)])) (fun ((k, v, E) : Nat × Value × List (Nat × Obj)) => h.pl - k) (0, .slice none 0 0, []) ⟨_, ⟨Nat.zero_le _, listE_nil _ _⟩, live6 rfl rfl rfl rfl rfl rfl⟩ (fun w hw => hw) ?_
 rintro ⟨k, v, E⟩ _ ⟨g, ⟨hkl, hE⟩, rfl⟩
 refine r_seq (by kernel_rfl) ?_
 refine s_val (v_lss (k := .i64) rfl rfl) ?_
 refine s_nil ?_
 refine c_seq ?_
 refine c_condR rfl rfl (fun h18 => ?_) (fun h18 => ?_)
 · obtain rfl : k = h.pl := by have := of_decide_eq_false h18; omega
   refine c_exit ?_
   refine n_exit ?_
   refine n_exit ?_
   refine n_bhere ?_
   refine n_then ?_
   refine r_seq (by kernel_rfl) ?_
   refine s_val (v_move (v := _) rfl) ?_
   refine s_val (v_makeFunc (vs := [.pointer (some ⟨b2, 0, none⟩)]) rfl) ?_
   refine s_sort (ps := ps) rfl rfl (enters_of Try.func73 (by kernel_rfl) rfl) hE (fun i hi => by have := ((wait_spec ps bank h.pl).2 i).1 hi; exact this.1.lt) (by have := wait_len ps bank h.pl; omega) (fun W hW i j p q hi hj hpi hpj => g_Of1 h ps b2 i j p q W (hp.at hW) ((cell_has hW .here).trans (H.at_pays h)) hi hj hpi hpj) (fun E38 ws38 hE38 hpm38 hso38 => ?_)
   have hlq38 : ws38.length = (waitTo ps bank h.pl).length := hpm38.length_eq
   refine s_nil ?_
   refine r_seq (by kernel_rfl) ?_
   refine s_val (v_move (v := _) rfl) ?_
   refine s_val (v_assign (v := _) rfl) ?_
   refine s_nil ?_
   refine c_ret ?_
   refine n_doneE rfl (by decide) ⟨ws38, ?_, fun hsa => sorted_queue hsa (by rw [hp.1]; exact hpm38) hso38⟩
   show ListE _ _ v _ _ E38
   exact hE38
 have hk0 := of_decide_eq_true h18
 obtain ⟨p, hpm, hd, ht⟩ := hp.get (k := k) (by omega)
 obtain ⟨b, o, hpa, hc⟩ := hp.some (k := k) (by omega)
 have hst0 := wait_step (bank := bank) hpm
 have hwl := wait_len ps bank k
 refine c_skip ?_
 refine n_then ?_
 refine c_seq ?_
 refine c_block ?_
 refine r_seq (by kernel_rfl) ?_
 refine s_val (v_move (v := .int .i64 _) rfl) ?_
 refine s_val (v_idxS (size := 6) (k := .i64) (by kernel_rfl) (congrArg (fun a => Value.slice a h.pl h.pc) hpa) rfl ⟨by omega, by omega⟩) ?_
 refine s_val (v_loadNo (cs := p.cells) (m := 6) (by kernel_rfl) rfl rfl (hc k p hpm)) ?_
 refine s_alloc (z := zeroOf Try.prog 65) (by kernel_rfl) (fun b7 => ?_)
 refine s_val (v_assign (v := .int .i64 _) rfl) ?_
 refine s_storeA (m := 6) (by kernel_rfl) rfl rfl .here (by kernel_rfl) rfl (PayS.all1 _) ?_
 refine s_nil ?_
 refine r_seq (by kernel_rfl) ?_
 refine s_val (v_field (fo := 0) (by kernel_rfl) rfl) ?_
 refine s_val (v_load1 (v := .int .i64 _) (by kernel_rfl) rfl .here rfl) ?_
 refine s_val (v_move (v := .int .i64 _) rfl) ?_
 refine s_val (v_eql (k := .i64) rfl rfl) ?_
 refine s_val (v_move (v := .bool _) rfl) ?_
 refine s_splitR (s := 26) rfl (fun h26 => ?_) (fun h26 => ?_)
 · have hst : waitTo ps bank (k + 1) = waitTo ps bank k := by rw [hst0]; simp only [*, Bool.true_and, Bool.false_and, Bool.and_true, Bool.and_false, Bool.not_true, Bool.not_false, Bool.true_or, Bool.or_true, Bool.false_or, Bool.or_false, cond_true, cond_false, if_true, if_false, Bool.false_eq_true, decide_true, decide_false]
   refine s_pass rfl rfl h26 ?_
   refine s_pass rfl rfl h26 ?_
   refine s_pass rfl rfl h26 ?_
   refine s_val (v_pickF (v := .bool _) rfl h26 rfl) ?_
   refine s_nil ?_
   refine c_condFh rfl rfl rfl ?_
   refine c_skip ?_
   refine n_bnormal ?_
   refine n_then ?_
   refine r_list (by kernel_rfl) ?_
   refine s_val (v_add rfl rfl (by omega)) ?_
   refine s_val (v_move (v := .int .i64 _) rfl) ?_
   refine s_end ?_
   refine n_round (s := (k, v, E)) (k + 1, v, E) ⟨_, ⟨by omega, by rw [hst]; exact hE⟩, live6 rfl rfl rfl rfl rfl rfl⟩ (fun _ hw => hw.tail) (by dsimp only; omega)
 refine s_want rfl rfl h26 ?_
 refine s_val (v_field (fo := 4) (by kernel_rfl) rfl) ?_
 refine s_want rfl rfl h26 ?_
 refine s_val (v_load1 (v := .int .i64 _) (by kernel_rfl) rfl .here rfl) ?_
 refine s_want rfl rfl h26 ?_
 refine s_val (v_eql (k := .i64) rfl rfl) ?_
 refine s_val (v_pickT (v := .bool _) rfl h26 rfl) ?_
 refine s_nil ?_
 refine c_condR rfl rfl (fun h30 => ?_) (fun h30 => ?_)
 · have hst : waitTo ps bank (k + 1) = waitTo ps bank k := by rw [hst0]; simp only [*, Bool.true_and, Bool.false_and, Bool.and_true, Bool.and_false, Bool.not_true, Bool.not_false, Bool.true_or, Bool.or_true, Bool.false_or, Bool.or_false, cond_true, cond_false, if_true, if_false, Bool.false_eq_true, decide_true, decide_false]
   refine c_skip ?_
   refine n_bnormal ?_
   refine n_then ?_
   refine r_list (by kernel_rfl) ?_
   refine s_val (v_add rfl rfl (by omega)) ?_
   refine s_val (v_move (v := .int .i64 _) rfl) ?_
   refine s_end ?_
   refine n_round (s := (k, v, E)) (k + 1, v, E) ⟨_, ⟨by omega, by rw [hst]; exact hE⟩, live6 rfl rfl rfl rfl rfl rfl⟩ (fun _ hw => hw.tail) (by dsimp only; omega)
 refine c_weak (fun _ hw => hw.tail) ?_
 have hst : waitTo ps bank (k + 1) = waitTo ps bank k ++ [(k : Int)] := by rw [hst0]; simp only [*, Bool.true_and, Bool.false_and, Bool.and_true, Bool.and_false, Bool.not_true, Bool.not_false, Bool.true_or, Bool.or_true, Bool.false_or, Bool.or_false, cond_true, cond_false, if_true, if_false, Bool.false_eq_true, decide_true, decide_false]
 refine r_list (by kernel_rfl) ?_
 refine s_val (v_move (v := _) rfl) ?_
 refine s_val (v_move (v := .int .i64 _) rfl) ?_
 refine s_build1 (v := .int .i64 _) (e := 3) (m := 1) (by_ := 8) (by kernel_rfl) rfl rfl rfl (fill_scalar rfl) (fun b33 => ?_)
 refine s_push (e := 3) (m := 1) (by_ := 8) (by kernel_rfl) rfl rfl rfl rfl rfl hE rfl (all_scalar rfl rfl) (by omega) (fun v34 E34 hE34 => ?_)
 refine s_val (v_assign (v := _) rfl) ?_
 refine s_end ?_
 refine n_bnormal ?_
 refine n_then ?_
 refine r_list (by kernel_rfl) ?_
 refine s_val (v_add rfl rfl (by omega)) ?_
 refine s_val (v_move (v := .int .i64 _) rfl) ?_
 refine s_end ?_
 refine n_round (s := (k, v, E)) (k + 1, v34, E34) ⟨_, ⟨by omega, by rw [hst, List.map_append, List.length_append]; exact hE34⟩, live6 rfl rfl rfl rfl rfl rfl⟩ (fun _ hw => hw) (by dsimp only; omega)
theorem g_queues (h : H) (ps : List PayS) (w : World) (hp : PaysIn (At w) h.pa h.pl ps) (hb : h.pl * 48 ≤ 281474976710656) (hlc : h.pl ≤ h.pc) : GivesF Try.prog 64 [.agg h.cells] w (QueuesF ps) := by
 refine givesF_of Try.func64 rfl Try.ntmps64 (by simp) ?_
 refine r_seq (by kernel_rfl) ?_
 refine s_box (v := .agg _) rfl (fun b1 => ?_)
 refine s_alloc (z := .agg (rowS noS)) (by kernel_rfl) (fun b2 => ?_)
 refine s_nil ?_
 refine r_seq (by kernel_rfl) ?_
 refine s_alloc (z := .agg (rowS noS)) (by kernel_rfl) (fun b3 => ?_)
 refine s_nil ?_
 refine c_seq ?_
 refine r_seq (by kernel_rfl) ?_
 refine s_val (v_move (v := .int .i64 _) rfl) ?_
 refine s_nil ?_
 refine c_block ?_
 refine c_loop (σ := QG) (fun (s : QG) f => ∃ g, (s.k ≤ 4 ∧ More (At w) s.F ∧ WaitIn ps s.q s.k (Young w s.F)) ∧ f = (upd (upd (upd (upd g 1 (.pointer (some ⟨b1, 0, none⟩))) 2 (.pointer (some ⟨b2, 0, none⟩))) 3 (.pointer (some ⟨b3, 0, none⟩))) 5 (I s.k))) (fun (s : QG) => Has w s.F [(b3, .cells (rowS s.q) 98), (b2, .cells (rowS noS) 98), (b1, .cells h.cells 47)]) (fun (s : QG) => 4 - s.k) ⟨0, At w, noS⟩ ⟨_, ⟨Nat.zero_le _, fun _ _ h => h, fun b h0 h1 => by dsimp only at h1; omega⟩, live4 rfl rfl rfl rfl⟩ (fun w hw => hw) ?_
 rintro s _ ⟨g, ⟨hkl, hmo, hwt⟩, rfl⟩
 refine r_seq (by kernel_rfl) ?_
 refine s_val (v_lss (k := .i64) rfl rfl) ?_
 refine s_nil ?_
 refine c_seq ?_
 refine c_condR rfl rfl (fun h6 => ?_) (fun h6 => ?_)
 · refine c_exit ?_
   refine n_exit ?_
   refine n_exit ?_
   refine n_bhere ?_
   refine n_then ?_
   refine r_seq (by kernel_rfl) ?_
   refine s_val (v_loadA (m := 4) (by kernel_rfl) rfl .here (rowS_size _)) ?_
   refine s_storeA (m := 4) (by kernel_rfl) rfl rfl (.there .here) (rowS_size _) (rowS_size _) (rowS_all _) ?_
   refine s_nil ?_
   refine c_ret ?_
   have hk4 : s.k = 4 := by have := of_decide_eq_false h6; omega
   rw [hk4] at hwt
   exact n_doneCF (m := 4) rfl (by decide) rfl (by kernel_rfl) (.there .here) (rowS_size _) (fun w hw => ⟨s.q, rfl, hwt.mono (young_fresh hw)⟩)
 have hk0 := of_decide_eq_true h6
 have hki : 0 ≤ (s.k : Int) ∧ (s.k : Int) < 4 := ⟨by omega, by omega⟩
 refine c_skip ?_
 refine n_then ?_
 refine c_seq ?_
 refine c_block ?_
 refine r_seq (by kernel_rfl) ?_
 refine s_val (v_move (v := .int .i64 _) rfl) ?_
 refine s_val (v_assign (v := .int .i64 _) rfl) ?_
 refine s_nil ?_
 refine r_list (by kernel_rfl) ?_
 refine s_val (v_move (v := .int .i64 _) rfl) ?_
 refine s_val (v_loadA (m := 42) (by kernel_rfl) rfl (.there (.there .here)) (H.size _)) ?_
 refine s_val (v_move (v := .int .i64 _) rfl) ?_
 refine s_callG (by kernel_rfl) (ofX_mono ps s.k) (fun w hw => (gx_Of h ps s.k w ((hp.mono hmo).at hw) hb hlc hki).toF (fun F v E hk hl => ofX_list hk hl)) (fun F11 v11 hF11 hR11 => ?_)
 obtain ⟨ws, a11, c11, rfl, hc11, ia11, hs11⟩ := hR11
 refine s_val (v_idxA (len := 4) (size := 1) (k := .i64) (by kernel_rfl) rfl rfl hki) ?_
 refine s_store1 (v := .slice _ _ _) (by kernel_rfl) rfl rfl .here (rowS_set _ hki) rfl ?_
 refine s_end ?_
 refine n_bnormal ?_
 refine n_then ?_
 refine r_list (by kernel_rfl) ?_
 refine s_val (v_add rfl rfl (by omega)) ?_
 refine s_val (v_move (v := .int .i64 _) rfl) ?_
 refine s_end ?_
 refine n_round (s := s) ⟨s.k + 1, F11, up1S s.q s.k ⟨a11, ws.length, c11⟩⟩ ⟨_, ⟨by dsimp only; omega, fun a v h => hF11 a v (hmo a v h), hwt.step (young_more hF11) rfl hc11 ia11 hs11⟩, live4 rfl rfl rfl rfl⟩ (fun _ hw => hw) (by dsimp only; omega)
theorem g_stands (h : H) (b : Int) (w : World) (hb4 : 0 ≤ b ∧ b < 4) (hlm : ∀ t : Int, 0 ≤ t ∧ t < 4 → -1 ≤ h.lim b t) : Gives Try.prog 75 [.agg h.cells, I b] w (.bool (okBank h b)) := by
 refine gives_of Try.func75 rfl Try.ntmps75 (by simp) ?_
 refine r_seq (by kernel_rfl) ?_
 refine s_box (v := .agg _) rfl (fun b2 => ?_)
 refine s_val (v_assign (v := .bool _) rfl) ?_
 refine s_nil ?_
 refine c_seq ?_
 refine r_seq (by kernel_rfl) ?_
 refine s_val (v_loadA (m := 42) (by kernel_rfl) rfl .here (H.size _)) ?_
 refine s_val (v_move (v := .int .i64 _) rfl) ?_
 refine s_call (by kernel_rfl) (fun w hw => g_Left _ _ w) ?_
 refine s_val (v_lss (k := .i64) rfl rfl) ?_
 refine s_nil ?_
 refine c_cond rfl rfl (fun h10 => ?_) (fun h10 => ?_)
 · refine r_seq (by kernel_rfl) ?_
   refine s_val (v_assign (v := .bool _) rfl) ?_
   refine s_nil ?_
   refine c_ret ?_
   refine n_ret ?_
   refine n_done rfl (by decide) (Eq.trans (b := .bool _) rfl (congrArg Value.bool ?_))
   exact (ok_left (by rw [← left_eqB hb4]; exact of_decide_eq_true h10)).symm
 refine c_skip ?_
 refine n_then ?_
 refine c_seq ?_
 refine r_seq (by kernel_rfl) ?_
 refine s_val (v_move (v := .int .i64 _) rfl) ?_
 refine s_val (v_field (fo := 24) (by kernel_rfl) rfl) ?_
 refine s_val (v_idxA (len := 4) (size := 4) (k := .i64) (by kernel_rfl) rfl rfl (by assumption)) ?_
 refine s_val (v_loadN (m := 4) (cs' := rowA _) (by kernel_rfl) rfl .here (rowA_size _) (H.ex_limrow _ (by assumption))) ?_
 refine s_val (v_move (v := .int .i64 _) rfl) ?_
 refine s_nil ?_
 refine c_block ?_
 refine c_loop (σ := Nat) (fun (m : Nat) f => ∃ g, (m ≤ 4 ∧ ∀ t : Int, 0 ≤ t → t < m → ¬ (0 ≤ h.lim b t ∧ h.lim b t < wr (h.sent b t - h.sent t b))) ∧ f = (upd (upd (upd (upd g 1 (I b)) 2 (.pointer (some ⟨b2, 0, none⟩))) 14 (.agg (rowA (h.lim b)))) 15 (I m))) (fun (m : Nat) => Has w (At w) [(b2, .cells h.cells 47)]) (fun (m : Nat) => 4 - m) 0 ⟨_, ⟨Nat.zero_le _, fun t h0 h1 => by omega⟩, live4 rfl rfl rfl rfl⟩ (fun w hw => hw) ?_
 rintro m _ ⟨g, ⟨hml, hlo⟩, rfl⟩
 refine r_seq (by kernel_rfl) ?_
 refine s_val (v_lss (k := .i64) rfl rfl) ?_
 refine s_nil ?_
 refine c_seq ?_
 refine c_condR rfl rfl (fun h16 => ?_) (fun h16 => ?_)
 · refine c_exit ?_
   refine n_exit ?_
   refine n_exit ?_
   refine n_bhere ?_
   refine n_then ?_
   refine r_seq (by kernel_rfl) ?_
   refine s_val (v_assign (v := .bool _) rfl) ?_
   refine s_nil ?_
   refine c_ret ?_
   refine n_done rfl (by decide) (Eq.trans (b := .bool _) rfl (congrArg Value.bool ?_))
   exact (ok_all (by rw [← left_eqB hb4]; exact of_decide_eq_false h10) (fun t ht => hlo t ht.1 (by have := of_decide_eq_false h16; omega))).symm
 have hk0 := of_decide_eq_true h16
 have hm : 0 ≤ (m : Int) ∧ (m : Int) < 4 := ⟨by omega, by omega⟩
 refine c_skip ?_
 refine n_then ?_
 refine c_seq ?_
 refine c_block ?_
 refine r_seq (by kernel_rfl) ?_
 refine s_val (v_move (v := .int .i64 _) rfl) ?_
 refine s_val (v_indexS (len := 4) (t := 3) (m := 1) (k := .i64) (v := .int .i64 _) (by kernel_rfl) (by kernel_rfl) rfl rfl (by assumption) (rowA_at _ (by assumption))) ?_
 refine s_val (v_assign (v := .int .i64 _) rfl) ?_
 refine s_val (v_assign (v := .int .i64 _) rfl) ?_
 refine s_nil ?_
 refine r_seq (by kernel_rfl) ?_
 refine s_val (v_move (v := .int .i64 _) rfl) ?_
 refine s_val (v_move (v := .int .i64 _) rfl) ?_
 refine s_val (v_neq (k := .i64) rfl rfl) ?_
 refine s_val (v_move (v := .bool _) rfl) ?_
 refine s_splitNR (s := 22) rfl (fun h22 => ?_) (fun h22 => ?_)
 · refine s_pass rfl rfl (congrArg not h22) ?_
   refine s_pass rfl rfl (congrArg not h22) ?_
   refine s_val (v_pickF (v := .bool _) rfl (congrArg not h22) rfl) ?_
   refine s_val (v_move (v := .bool _) rfl) ?_
   refine s_pass (g := false) rfl rfl rfl ?_
   refine s_pass (g := false) rfl rfl rfl ?_
   refine s_pass (g := false) rfl rfl rfl ?_
   refine s_pass (g := false) rfl rfl rfl ?_
   refine s_pass (g := false) rfl rfl rfl ?_
   refine s_pass (g := false) rfl rfl rfl ?_
   refine s_val (v_pickF (v := .bool _) rfl rfl rfl) ?_
   refine s_nil ?_
   refine c_condFh rfl rfl rfl ?_
   refine c_skip ?_
   refine n_bnormal ?_
   refine n_then ?_
   refine r_list (by kernel_rfl) ?_
   refine s_val (v_add rfl rfl (by omega)) ?_
   refine s_val (v_move (v := .int .i64 _) rfl) ?_
   refine s_end ?_
   refine n_round (m + 1) ⟨_, ⟨by omega, fun t h0 h1 => by
     by_cases e : t = (m : Int)
     · subst e; exact fun h => ok_other hb4 (of_decide_eq_true h22) h.1 h.2
     · exact hlo t h0 (by omega)⟩, live4 rfl rfl rfl rfl⟩ (fun _ hw => hw) (by omega)
 refine s_want rfl rfl (congrArg not h22) ?_
 refine s_val (v_move (v := .int .i64 _) rfl) ?_
 refine s_want rfl rfl (congrArg not h22) ?_
 refine s_val (v_neq (k := .i64) rfl rfl) ?_
 refine s_val (v_pickT (v := .bool _) rfl (congrArg not h22) rfl) ?_
 refine s_val (v_move (v := .bool _) rfl) ?_
 refine s_splitNR (s := 26) rfl (fun h26 => ?_) (fun h26 => ?_)
 · refine s_pass rfl rfl (congrArg not h26) ?_
   refine s_pass rfl rfl (congrArg not h26) ?_
   refine s_pass rfl rfl (congrArg not h26) ?_
   refine s_pass rfl rfl (congrArg not h26) ?_
   refine s_pass rfl rfl (congrArg not h26) ?_
   refine s_pass rfl rfl (congrArg not h26) ?_
   refine s_val (v_pickF (v := .bool _) rfl (congrArg not h26) rfl) ?_
   refine s_nil ?_
   refine c_condFh rfl rfl rfl ?_
   refine c_skip ?_
   refine n_bnormal ?_
   refine n_then ?_
   refine r_list (by kernel_rfl) ?_
   refine s_val (v_add rfl rfl (by omega)) ?_
   refine s_val (v_move (v := .int .i64 _) rfl) ?_
   refine s_end ?_
   refine n_round (m + 1) ⟨_, ⟨by omega, fun t h0 h1 => by
     by_cases e : t = (m : Int)
     · subst e; exact fun h => by have := of_decide_eq_true h26; omega
     · exact hlo t h0 (by omega)⟩, live4 rfl rfl rfl rfl⟩ (fun _ hw => hw) (by omega)
 refine s_want rfl rfl (congrArg not h26) ?_
 refine s_val (v_loadA (m := 42) (by kernel_rfl) rfl .here (H.size _)) ?_
 refine s_want rfl rfl (congrArg not h26) ?_
 refine s_val (v_move (v := .int .i64 _) rfl) ?_
 refine s_want rfl rfl (congrArg not h26) ?_
 refine s_val (v_move (v := .int .i64 _) rfl) ?_
 refine s_want rfl rfl (congrArg not h26) ?_
 refine s_call (by kernel_rfl) (fun w hw => g_Net _ _ _ w) ?_
 refine s_want rfl rfl (congrArg not h26) ?_
 refine s_val (v_move (v := .int .i64 _) rfl) ?_
 refine s_want rfl rfl (congrArg not h26) ?_
 refine s_val (v_gtr (k := .i64) rfl rfl) ?_
 refine s_val (v_pickT (v := .bool _) rfl (congrArg not h26) rfl) ?_
 refine s_nil ?_
 refine c_condR rfl rfl (fun h33 => ?_) (fun h33 => ?_)
 · refine c_skip ?_
   refine n_bnormal ?_
   refine n_then ?_
   refine r_list (by kernel_rfl) ?_
   refine s_val (v_add rfl rfl (by omega)) ?_
   refine s_val (v_move (v := .int .i64 _) rfl) ?_
   refine s_end ?_
   refine n_round (m + 1) ⟨_, ⟨by omega, fun t h0 h1 => by
     by_cases e : t = (m : Int)
     · subst e; exact fun h => absurd (by rw [net_eqB hb4 hm]; exact h.2) (of_decide_eq_false h33)
     · exact hlo t h0 (by omega)⟩, live4 rfl rfl rfl rfl⟩ (fun _ hw => hw) (by omega)
 refine r_seq (by kernel_rfl) ?_
 refine s_val (v_assign (v := .bool _) rfl) ?_
 refine s_nil ?_
 refine c_ret ?_
 refine n_bret ?_
 refine n_ret ?_
 refine n_ret ?_
 refine n_bret ?_
 refine n_ret ?_
 refine n_done rfl (by decide) (Eq.trans (b := .bool _) rfl (congrArg Value.bool ?_))
 exact (ok_lim hm (by have := of_decide_eq_false h26; have := hlm m hm; omega) (by rw [← net_eqB hb4 hm]; exact of_decide_eq_true h33)).symm
end Go.Proofs.Ytmkboljfbmlebac
namespace Go.Proofs.Ytmkboljfbmlebac
open Go.RowKit
set_option linter.unusedSimpArgs false
set_option linter.unusedVariables false
set_option maxRecDepth 100000
attribute [local irreducible] cC sC nC rC qw
set_option maxHeartbeats 1000000 in
theorem g_stuck (h : H) (ps : List PayS) (q : Int → SlS) (n : Int → Int) (w : World) (hp : PaysIn (At w) h.pa h.pl ps) (hb : h.pl * 48 ≤ 281474976710656) (hlc : h.pl ≤ h.pc) (hg : goodB h ps = true) (hq : WaitIn ps q 4 (At w)) (hn : ∀ b : Int, 0 ≤ b ∧ b < 4 → 0 ≤ n b ∧ n b ≤ (queueM ps b).length) : Gives Try.prog 69 [.agg h.cells, .agg (rowS q), .agg (rowA n)] w (.tuple #[I (stuckM (movesTo h ps n 4) n).1, .bool (stuckM (movesTo h ps n 4) n).2]) := by
 refine gives_of Try.func69 rfl Try.ntmps69 (by simp) ?_
 refine r_seq (by kernel_rfl) ?_
 refine s_box (v := .agg _) rfl (fun b3 => ?_)
 refine s_box (v := .agg _) rfl (fun b4 => ?_)
 refine s_box (v := .agg _) rfl (fun b5 => ?_)
 refine s_val (v_assign (v := .int .i64 _) rfl) ?_
 refine s_val (v_assign (v := .bool _) rfl) ?_
 refine s_nil ?_
 refine c_seq ?_
 refine r_seq (by kernel_rfl) ?_
 refine s_val (v_loadA (m := 4) (by kernel_rfl) rfl .here (rowA_size _)) ?_
 refine s_val (v_move (v := .int .i64 _) rfl) ?_
 refine s_nil ?_
 refine c_block ?_
 refine c_loop (σ := Nat) (fun (k : Nat) f => ∃ g, (k ≤ 4) ∧ f = (upd (upd (upd (upd (upd g 3 (.pointer (some ⟨b3, 0, none⟩))) 4 (.pointer (some ⟨b4, 0, none⟩))) 5 (.pointer (some ⟨b5, 0, none⟩))) 15 (.agg (rowA n))) 16 (I k))) (fun (k : Nat) => Has w (At w) [(b5, .cells (rowA n) 43), (b4, .cells (rowS q) 98), (b3, .cells (movesTo h ps n k).cells 47)]) (fun (k : Nat) => 4 - k) 0 ⟨_, Nat.zero_le _, live5 rfl rfl rfl rfl rfl⟩ (fun w hw => hw) ?_
 rintro k _ ⟨g, hkl, rfl⟩
 refine r_seq (by kernel_rfl) ?_
 refine s_val (v_lss (k := .i64) rfl rfl) ?_
 refine s_nil ?_
 refine c_seq ?_
 refine c_cond rfl rfl (fun h17 => ?_) (fun h17 => ?_)
 · have hk0 := of_decide_eq_true h17
   have hki : 0 ≤ (k : Int) ∧ (k : Int) < 4 := ⟨by omega, by omega⟩
   have hwg := hq.get (good_pays hg).2.1 hki
   have hnk := hn k hki
   have hqk := queueM_len ps k
   have hl24 := (good_pays hg).2.2
   refine c_skip ?_
   refine n_then ?_
   refine c_seq ?_
   refine c_block ?_
   refine r_seq (by kernel_rfl) ?_
   refine s_val (v_move (v := .int .i64 _) rfl) ?_
   refine s_val (v_indexS (len := 4) (t := 3) (m := 1) (k := .i64) (v := .int .i64 _) (by kernel_rfl) (by kernel_rfl) rfl rfl hki (rowA_at _ hki)) ?_
   refine s_val (v_assign (v := .int .i64 _) rfl) ?_
   refine s_val (v_assign (v := .int .i64 _) rfl) ?_
   refine s_nil ?_
   refine r_seq (by kernel_rfl) ?_
   refine s_val (v_move (v := .int .i64 _) rfl) ?_
   refine s_val (v_idxA (len := 4) (size := 1) (k := .i64) (by kernel_rfl) rfl rfl hki) ?_
   refine s_val (v_load1 (v := .slice _ _ _) (by kernel_rfl) rfl (.there .here) (rowS_at0 _ hki)) ?_
   refine s_val (v_move (v := .int .i64 _) rfl) ?_
   refine s_val (v_sliceHi (m := 1) (by kernel_rfl) rfl rfl ⟨by omega, by omega⟩) ?_
   refine s_val (v_lenS (T := 30) (m := 1) (by kernel_rfl) rfl rfl) ?_
   refine s_val (v_move (v := .int .i64 _) rfl) ?_
   refine s_nil ?_
   refine c_block ?_
   refine c_loop (σ := Nat) (fun (j : Nat) f => ∃ g, (j ≤ (n k).toNat) ∧ f = (upd (upd (upd (upd (upd (upd (upd (upd g 3 (.pointer (some ⟨b3, 0, none⟩))) 4 (.pointer (some ⟨b4, 0, none⟩))) 5 (.pointer (some ⟨b5, 0, none⟩))) 15 (.agg (rowA n))) 16 (I k)) 24 (.slice (q k).a (n k).toNat (q k).c)) 25 (I (n k).toNat)) 26 (I j))) (fun (j : Nat) => Has w (At w) [(b5, .cells (rowA n) 43), (b4, .cells (rowS q) 98), (b3, .cells (moveQ ps k (movesTo h ps n k) ((queueM ps k).take j)).cells 47)]) (fun (j : Nat) => (n k).toNat - j) 0 ⟨_, Nat.zero_le _, live8 rfl rfl rfl rfl rfl rfl rfl rfl⟩ (fun w hw => hw) ?_
   rintro j _ ⟨g, hjl, rfl⟩
   refine r_seq (by kernel_rfl) ?_
   refine s_val (v_lss (k := .i64) rfl rfl) ?_
   refine s_nil ?_
   refine c_seq ?_
   refine c_condR rfl rfl (fun h27 => ?_) (fun h27 => ?_)
   · have hjj : j = (n k).toNat := by have := of_decide_eq_false h27; omega
     refine c_exit ?_
     refine n_exit ?_
     refine n_exit ?_
     refine n_bhere ?_
     refine n_bnormal ?_
     refine n_then ?_
     refine r_list (by kernel_rfl) ?_
     refine s_val (v_add rfl rfl (by omega)) ?_
     refine s_val (v_move (v := .int .i64 _) rfl) ?_
     refine s_end ?_
     refine n_round (k + 1) ⟨_, (by omega), live5 rfl rfl rfl rfl rfl⟩ (fun _ hw => by rw [hjj] at hw; exact hw) (by omega)
   have hj0 := of_decide_eq_true h27
   obtain ⟨bq, oq, i, haq, hi, hfi⟩ := hwg.2.2.get (j := j) (by omega)
   obtain ⟨p, hst, hpi, hsta, hsrc⟩ := (queueM_mine (List.mem_of_getElem? hi)).settles
   have hi0 := (settles_spec hst).1
   have hil : i.toNat < h.pl := by have := (List.getElem?_eq_some_iff.1 hpi).1; have := hp.1; omega
   obtain ⟨bp, op, hpa, hc⟩ := hp.some hil
   have hxs : Value.slice (moveQ ps k (movesTo h ps n k) ((queueM ps k).take j)).pa (moveQ ps k (movesTo h ps n k) ((queueM ps k).take j)).pl (moveQ ps k (movesTo h ps n k) ((queueM ps k).take j)).pc = .slice (some ⟨bp, op, none⟩) h.pl h.pc := by
     obtain ⟨_, e1, e2, e3⟩ := moveQ_lim ps k ((queueM ps k).take j) (movesTo h ps n k)
     obtain ⟨_, e4, e5, e6⟩ := movesTo_lim h ps n k
     rw [e1, e2, e3, e4, e5, e6, hpa]
   refine c_skip ?_
   refine n_then ?_
   refine c_seq ?_
   refine c_block ?_
   refine r_seq (by kernel_rfl) ?_
   refine s_val (v_idxS (size := 1) (k := .i64) (by kernel_rfl) (congrArg (fun a => Value.slice a (n k).toNat (q k).c) haq) rfl ⟨by omega, by omega⟩) ?_
   refine s_val (v_load1o (v := I i) (by kernel_rfl) rfl (by simpa using hfi)) ?_
   refine s_val (v_assign (v := .int .i64 _) rfl) ?_
   refine s_nil ?_
   refine r_seq (by kernel_rfl) ?_
   refine s_val (v_field (fo := 40) (by kernel_rfl) rfl) ?_
   refine s_val (v_load1 (v := .slice _ _ _) (by kernel_rfl) rfl (.there (.there .here)) (H.at_pays _)) ?_
   refine s_val (v_move (v := .int .i64 _) rfl) ?_
   refine s_val (v_idxS (size := 6) (k := .i64) (by kernel_rfl) hxs rfl ⟨by omega, by omega⟩) ?_
   refine s_val (v_loadNo (cs := p.cells) (m := 6) (by kernel_rfl) rfl rfl (hc _ p hpi)) ?_
   refine s_alloc (z := zeroOf Try.prog 65) (by kernel_rfl) (fun b12 => ?_)
   refine s_storeA (m := 6) (by kernel_rfl) rfl rfl .here (by kernel_rfl) rfl (PayS.all1 _) ?_
   refine s_nil ?_
   refine r_list (by kernel_rfl) ?_
   refine s_val (v_loadA (m := 42) (by kernel_rfl) rfl (.there (.there (.there .here))) (H.size _)) ?_
   refine s_val (v_field (fo := 0) (by kernel_rfl) rfl) ?_
   refine s_val (v_load1 (v := .int .i64 _) (by kernel_rfl) rfl .here rfl) ?_
   refine s_val (v_field (fo := 1) (by kernel_rfl) rfl) ?_
   refine s_val (v_load1 (v := .int .i64 _) (by kernel_rfl) rfl .here rfl) ?_
   refine s_val (v_field (fo := 2) (by kernel_rfl) rfl) ?_
   refine s_val (v_load1 (v := .int .i64 _) (by kernel_rfl) rfl .here rfl) ?_
   refine s_call (by kernel_rfl) (fun w hw => g_Move _ _ _ _ w) ?_
   refine s_storeA (m := 42) (by kernel_rfl) rfl rfl (.there (.there (.there .here))) (H.size _) (H.size _) (H.all1 _) ?_
   refine s_end ?_
   refine n_bnormal ?_
   refine n_then ?_
   refine r_list (by kernel_rfl) ?_
   refine s_val (v_add rfl rfl (by omega)) ?_
   refine s_val (v_move (v := .int .i64 _) rfl) ?_
   refine s_end ?_
   refine n_round (j + 1) ⟨_, (by omega), live8 rfl rfl rfl rfl rfl rfl rfl rfl⟩ (fun _ hw => by rw [moveQ_take hi hpi]; rw [hsrc] at hw; exact hw.tail) (by omega)
 have hk4 : k = 4 := by have := of_decide_eq_false h17; omega
 refine c_exit ?_
 refine n_exit ?_
 refine n_exit ?_
 refine n_bhere ?_
 refine n_then ?_
 refine c_seq ?_
 refine r_seq (by kernel_rfl) ?_
 refine s_val (v_loadA (m := 4) (by kernel_rfl) rfl .here (rowA_size _)) ?_
 refine s_val (v_move (v := .int .i64 _) rfl) ?_
 refine s_nil ?_
 refine c_block ?_
 refine c_loop (σ := Nat) (fun (k : Nat) f => ∃ g, (k ≤ 4 ∧ ∀ b : Int, 0 ≤ b → b < k → stuckC (movesTo h ps n 4) n b = false) ∧ f = (upd (upd (upd (upd (upd g 3 (.pointer (some ⟨b3, 0, none⟩))) 4 (.pointer (some ⟨b4, 0, none⟩))) 5 (.pointer (some ⟨b5, 0, none⟩))) 45 (.agg (rowA n))) 46 (I k))) (fun (k : Nat) => Has w (At w) [(b5, .cells (rowA n) 43), (b4, .cells (rowS q) 98), (b3, .cells (movesTo h ps n 4).cells 47)]) (fun (k : Nat) => 4 - k) 0 ⟨_, ⟨Nat.zero_le _, fun b h0 h1 => by omega⟩, live5 rfl rfl rfl rfl rfl⟩ (fun w hw => by rw [hk4] at hw; exact hw) ?_
 rintro k _ ⟨g, ⟨hkl2, hlo⟩, rfl⟩
 refine r_seq (by kernel_rfl) ?_
 refine s_val (v_lss (k := .i64) rfl rfl) ?_
 refine s_nil ?_
 refine c_seq ?_
 refine c_condR rfl rfl (fun h47 => ?_) (fun h47 => ?_)
 · refine c_exit ?_
   refine n_exit ?_
   refine n_exit ?_
   refine n_bhere ?_
   refine n_then ?_
   refine r_seq (by kernel_rfl) ?_
   refine s_val (v_assign (v := .int .i64 _) rfl) ?_
   refine s_val (v_assign (v := .bool _) rfl) ?_
   refine s_nil ?_
   refine c_ret ?_
   refine n_doneII rfl (by decide) (by decide) ?_
   rw [stuck_none (x := (movesTo h ps n 4)) (n := n) (fun b h0 h1 => hlo b h0 (by have := of_decide_eq_false h47; omega))]
   rfl
 have hk0 := of_decide_eq_true h47
 have hki : 0 ≤ (k : Int) ∧ (k : Int) < 4 := ⟨by omega, by omega⟩
 refine c_skip ?_
 refine n_then ?_
 refine c_seq ?_
 refine c_block ?_
 refine r_seq (by kernel_rfl) ?_
 refine s_val (v_move (v := .int .i64 _) rfl) ?_
 refine s_val (v_indexS (len := 4) (t := 3) (m := 1) (k := .i64) (v := .int .i64 _) (by kernel_rfl) (by kernel_rfl) rfl rfl hki (rowA_at _ hki)) ?_
 refine s_val (v_assign (v := .int .i64 _) rfl) ?_
 refine s_val (v_assign (v := .int .i64 _) rfl) ?_
 refine s_nil ?_
 refine r_seq (by kernel_rfl) ?_
 refine s_val (v_move (v := .int .i64 _) rfl) ?_
 refine s_val (v_neq (k := .i64) rfl rfl) ?_
 refine s_val (v_move (v := .bool _) rfl) ?_
 refine s_splitNR (s := 52) rfl (fun h52 => ?_) (fun h52 => ?_)
 · refine s_pass rfl rfl (congrArg not h52) ?_
   refine s_pass rfl rfl (congrArg not h52) ?_
   refine s_pass rfl rfl (congrArg not h52) ?_
   refine s_pass rfl rfl (congrArg not h52) ?_
   refine s_val (v_pickF (v := .bool _) rfl (congrArg not h52) rfl) ?_
   refine s_nil ?_
   refine c_condFh rfl rfl rfl ?_
   refine c_skip ?_
   refine n_bnormal ?_
   refine n_then ?_
   refine r_list (by kernel_rfl) ?_
   refine s_val (v_add rfl rfl (by omega)) ?_
   refine s_val (v_move (v := .int .i64 _) rfl) ?_
   refine s_end ?_
   refine n_round (k + 1) ⟨_, ⟨by omega, fun b h0 h1 => by
     by_cases e : b = (k : Int)
     · subst e; unfold stuckC; rw [decide_eq_true (of_decide_eq_true h52)]; rfl
     · exact hlo b h0 (by omega)⟩, live5 rfl rfl rfl rfl rfl⟩ (fun _ hw => hw) (by omega)
 refine s_want rfl rfl (congrArg not h52) ?_
 refine s_val (v_loadA (m := 42) (by kernel_rfl) rfl (.there (.there .here)) (H.size _)) ?_
 refine s_want rfl rfl (congrArg not h52) ?_
 refine s_val (v_move (v := .int .i64 _) rfl) ?_
 refine s_want rfl rfl (congrArg not h52) ?_
 refine s_call (by kernel_rfl) (fun w hw => g_stands _ _ w hki (fun t ht => by rw [(movesTo_lim h ps n 4).1]; exact ((good_of hg).lim _ t hki ht).1)) ?_
 refine s_want rfl rfl (congrArg not h52) ?_
 refine s_val (v_not rfl) ?_
 refine s_val (v_pickT (v := .bool _) rfl (congrArg not h52) rfl) ?_
 refine s_nil ?_
 refine c_condNR rfl rfl (fun h57 => ?_) (fun h57 => ?_)
 · refine c_skip ?_
   refine n_bnormal ?_
   refine n_then ?_
   refine r_list (by kernel_rfl) ?_
   refine s_val (v_add rfl rfl (by omega)) ?_
   refine s_val (v_move (v := .int .i64 _) rfl) ?_
   refine s_end ?_
   refine n_round (k + 1) ⟨_, ⟨by omega, fun b h0 h1 => by
     by_cases e : b = (k : Int)
     · subst e; unfold stuckC; rw [h57]; simp
     · exact hlo b h0 (by omega)⟩, live5 rfl rfl rfl rfl rfl⟩ (fun _ hw => hw) (by omega)
 refine r_seq (by kernel_rfl) ?_
 refine s_val (v_move (v := .int .i64 _) rfl) ?_
 refine s_val (v_assign (v := .int .i64 _) rfl) ?_
 refine s_val (v_assign (v := .bool _) rfl) ?_
 refine s_nil ?_
 refine c_ret ?_
 refine n_bret ?_
 refine n_ret ?_
 refine n_ret ?_
 refine n_bret ?_
 refine n_ret ?_
 refine n_doneII rfl (by decide) (by decide) ?_
 rw [stuck_at (x := (movesTo h ps n 4)) (n := n) (by omega) hlo (by unfold stuckC; rw [h57, decide_eq_false (of_decide_eq_false h52)]; rfl)]
 rfl
theorem g_Most (h : H) (ps : List PayS) (w : World) (hp : PaysIn (At w) h.pa h.pl ps) (hb : h.pl * 48 ≤ 281474976710656) (hlc : h.pl ≤ h.pc) : Gives Try.prog 65 [.agg h.cells] w (.agg (rowA (mostM h.core ps))) := by
 refine gives_of Try.func65 rfl Try.ntmps65 (by simp) ?_
 refine r_seq (by kernel_rfl) ?_
 refine s_box (v := .agg _) rfl (fun b1 => ?_)
 refine s_alloc (z := .agg (rowA fun _ => 0)) (by kernel_rfl) (fun b2 => ?_)
 refine s_nil ?_
 refine r_seq (by kernel_rfl) ?_
 refine s_alloc (z := .agg (rowA fun _ => 0)) (by kernel_rfl) (fun b3 => ?_)
 refine s_nil ?_
 refine c_seq ?_
 refine r_seq (by kernel_rfl) ?_
 refine s_val (v_loadA (m := 42) (by kernel_rfl) rfl (.there (.there .here)) (H.size _)) ?_
 refine s_call (by kernel_rfl) (fun w hw => g_Good _ ps w (hp.at hw)) ?_
 refine s_val (v_not rfl) ?_
 refine s_nil ?_
 refine c_condN rfl rfl (fun h10 => ?_) (fun h10 => ?_)
 · refine r_seq (by kernel_rfl) ?_
   refine s_val (v_loadA (m := 4) (by kernel_rfl) rfl .here (rowA_size _)) ?_
   refine s_storeA (m := 4) (by kernel_rfl) rfl rfl (.there .here) (rowA_size _) (rowA_size _) (rowA_all _) ?_
   refine s_nil ?_
   refine c_ret ?_
   refine n_ret ?_
   refine n_doneC (m := 4) rfl (by decide) rfl (by kernel_rfl) (.there .here) (rowA_size _) (congrArg Value.agg ?_)
   rw [mostM_bad (show goodB h.core ps = false from h10)]
   rfl
 refine c_skip ?_
 refine n_then ?_
 have hg : goodB h ps = true := h10
 have hgc : goodB h.core ps = true := h10
 have hsa := (good_pays hg).2.1
 refine r_seq (by kernel_rfl) ?_
 refine s_val (v_loadA (m := 42) (by kernel_rfl) rfl (.there (.there .here)) (H.size _)) ?_
 refine s_callG (by kernel_rfl) (queuesF_mono ps) (fun w hw => g_queues h ps w (hp.at hw) hb hlc) (fun F13 v13 hF13 hR13 => ?_)
 obtain ⟨q, rfl, hwt⟩ := hR13
 replace hwt := hwt.mono (more_young _ _)
 refine s_alloc (z := .agg (rowS noS)) (by kernel_rfl) (fun b4 => ?_)
 refine s_storeA (m := 4) (by kernel_rfl) rfl rfl .here (rowS_size _) (rowS_size _) (rowS_all _) ?_
 refine s_nil ?_
 refine c_seq ?_
 refine r_seq (by kernel_rfl) ?_
 refine s_val (v_move (v := .int .i64 _) rfl) ?_
 refine s_nil ?_
 refine c_block ?_
 refine c_loop (σ := Nat) (fun (k : Nat) f => ∃ g, (k ≤ 4) ∧ f = (upd (upd (upd (upd (upd g 1 (.pointer (some ⟨b1, 0, none⟩))) 2 (.pointer (some ⟨b2, 0, none⟩))) 3 (.pointer (some ⟨b3, 0, none⟩))) 4 (.pointer (some ⟨b4, 0, none⟩))) 14 (I k))) (fun (k : Nat) => Has w F13 [(b4, .cells (rowS q) 98), (b3, .cells (rowA (sizeTo ps k)) 43), (b2, .cells (rowA (fun _ => 0)) 43), (b1, .cells h.cells 47)]) (fun (k : Nat) => 4 - k) 0 ⟨_, Nat.zero_le _, live5 rfl rfl rfl rfl rfl⟩ (fun w hw => by rw [show rowA (sizeTo ps 0) = rowA (fun _ => 0) from rowA_congr fun b hb => by unfold sizeTo; rw [if_neg (by omega)]]; exact hw) ?_
 rintro k _ ⟨g, hkl, rfl⟩
 refine r_seq (by kernel_rfl) ?_
 refine s_val (v_lss (k := .i64) rfl rfl) ?_
 refine s_nil ?_
 refine c_seq ?_
 refine c_cond rfl rfl (fun h15 => ?_) (fun h15 => ?_)
 · have hk0 := of_decide_eq_true h15
   have hki : 0 ≤ (k : Int) ∧ (k : Int) < 4 := ⟨by omega, by omega⟩
   have hql := hwt.len hsa hki
   refine c_skip ?_
   refine n_then ?_
   refine c_seq ?_
   refine c_block ?_
   refine r_seq (by kernel_rfl) ?_
   refine s_val (v_move (v := .int .i64 _) rfl) ?_
   refine s_val (v_assign (v := .int .i64 _) rfl) ?_
   refine s_nil ?_
   refine r_list (by kernel_rfl) ?_
   refine s_val (v_move (v := .int .i64 _) rfl) ?_
   refine s_val (v_move (v := .int .i64 _) rfl) ?_
   refine s_val (v_idxA (len := 4) (size := 1) (k := .i64) (by kernel_rfl) rfl rfl hki) ?_
   refine s_val (v_load1 (v := .slice _ _ _) (by kernel_rfl) rfl .here (rowS_at0 _ hki)) ?_
   refine s_val (v_lenS (T := 30) (m := 1) (by kernel_rfl) rfl rfl) ?_
   refine s_val (v_idxA (len := 4) (size := 1) (k := .i64) (by kernel_rfl) rfl rfl hki) ?_
   refine s_store1 (v := .int .i64 _) (by kernel_rfl) rfl rfl (.there .here) (rowA_set _ hki) rfl ?_
   refine s_end ?_
   refine n_bnormal ?_
   refine n_then ?_
   refine r_list (by kernel_rfl) ?_
   refine s_val (v_add rfl rfl (by omega)) ?_
   refine s_val (v_move (v := .int .i64 _) rfl) ?_
   refine s_end ?_
   refine n_round (k + 1) ⟨_, (by omega), live5 rfl rfl rfl rfl rfl⟩ (fun _ hw => by rw [hql, size_step ps (by omega)] at hw; exact hw) (by omega)
 have hk4 : k = 4 := by have := of_decide_eq_false h15; omega
 refine c_exit ?_
 refine n_exit ?_
 refine n_exit ?_
 refine n_bhere ?_
 refine n_then ?_
 refine c_block ?_
 refine c_loop (σ := Int → Int) (fun (n : Int → Int) f => ∃ g, (DownTo h.core ps n) ∧ f = (upd (upd (upd (upd g 1 (.pointer (some ⟨b1, 0, none⟩))) 2 (.pointer (some ⟨b2, 0, none⟩))) 3 (.pointer (some ⟨b3, 0, none⟩))) 4 (.pointer (some ⟨b4, 0, none⟩)))) (fun (n : Int → Int) => Has w F13 [(b4, .cells (rowS q) 98), (b3, .cells (rowA n) 43), (b2, .cells (rowA (fun _ => 0)) 43), (b1, .cells h.cells 47)]) (fun (n : Int → Int) => (all4 n).toNat) (qLen ps) ⟨_, down_start (fun _ _ => rfl), live4 rfl rfl rfl rfl⟩ (fun w hw => by rw [hk4, size_all] at hw; exact hw) ?_
 rintro n _ ⟨g, hd, rfl⟩
 refine c_block ?_
 refine r_seq (by kernel_rfl) ?_
 refine s_val (v_loadA (m := 42) (by kernel_rfl) rfl (.there (.there (.there .here))) (H.size _)) ?_
 refine s_val (v_loadA (m := 4) (by kernel_rfl) rfl .here (rowS_size _)) ?_
 refine s_val (v_loadA (m := 4) (by kernel_rfl) rfl (.there .here) (rowA_size _)) ?_
 refine s_call (by kernel_rfl) (fun w hw => g_stuck h ps q n w ((hp.mono hF13).at hw) hb hlc hg (hwt.at hw) hd.size) ?_
 refine s_val (v_move (v := .tuple _) rfl) ?_
 refine s_val (v_extract rfl rfl) ?_
 refine s_val (v_extract rfl rfl) ?_
 refine s_val (v_assign (v := .int .i64 _) rfl) ?_
 refine s_val (v_assign (v := .bool _) rfl) ?_
 refine s_nil ?_
 refine c_seq ?_
 refine r_seq (by kernel_rfl) ?_
 refine s_val (v_move (v := .bool _) rfl) ?_
 refine s_val (v_not rfl) ?_
 refine s_nil ?_
 refine c_condN rfl rfl (fun h32 => ?_) (fun h32 => ?_)
 · refine r_seq (by kernel_rfl) ?_
   refine s_val (v_loadA (m := 4) (by kernel_rfl) rfl (.there .here) (rowA_size _)) ?_
   refine s_storeA (m := 4) (by kernel_rfl) rfl rfl (.there (.there .here)) (rowA_size _) (rowA_size _) (rowA_all _) ?_
   refine s_nil ?_
   refine c_ret ?_
   refine n_ret ?_
   refine n_bret ?_
   refine n_ret ?_
   refine n_bret ?_
   refine n_doneC (m := 4) rfl (by decide) rfl (by kernel_rfl) (.there (.there .here)) (rowA_size _) (congrArg Value.agg ?_)
   exact (mostM_row (hd.done hgc (fun b hb => by rw [movesTo_core]; exact stuck_false h32 b hb))).symm
 obtain ⟨hki, hbc⟩ := stuck_true h32
 obtain ⟨hb0, hbo⟩ := stuckC_spec hbc
 have hbs := hd.size _ hki
 have hqk := queueM_len ps (stuckM (movesTo h ps n 4) n).1
 have hl24 := (good_pays hg).2.2
 have hds := hd.step hgc hki hb0 (by rw [movesTo_core]; exact hbo)
 refine c_skip ?_
 refine n_then ?_
 refine r_list (by kernel_rfl) ?_
 refine s_val (v_move (v := .int .i64 _) rfl) ?_
 refine s_val (v_idxA (len := 4) (size := 1) (k := .i64) (by kernel_rfl) rfl rfl hki) ?_
 refine s_val (v_load1 (v := .int .i64 _) (by kernel_rfl) rfl (.there .here) (rowA_at0 _ hki)) ?_
 refine s_val (v_sub rfl rfl (by omega)) ?_
 refine s_val (v_idxA (len := 4) (size := 1) (k := .i64) (by kernel_rfl) rfl rfl hki) ?_
 refine s_store1 (v := .int .i64 _) (by kernel_rfl) rfl rfl (.there .here) (rowA_set _ hki) rfl ?_
 refine s_end ?_
 refine n_bnormal ?_
 refine n_round (s := n) (up1 n (stuckM (movesTo h ps n 4) n).1 (n (stuckM (movesTo h ps n 4) n).1 - 1)) ⟨_, hds, live4 rfl rfl rfl rfl⟩ (fun _ hw => hw) (by have := hds.pos; rw [all4_down hki] at this ⊢; omega)
end Go.Proofs.Ytmkboljfbmlebac
namespace Go.Proofs.Ytmkboljfbmlebac
open Go.RowKit
set_option linter.unusedSimpArgs false
set_option linter.unusedVariables false
set_option maxRecDepth 100000
attribute [local irreducible] cC sC nC rC qw
set_option maxHeartbeats 1000000 in
theorem g_UntieX (h : H) (ps : List PayS) (w : World) (hp : PaysIn (At w) h.pa h.pl ps) (hb : h.pl * 48 ≤ 281474976710656) (hlc : h.pl ≤ h.pc) (hgc : goodB h.core ps = true) : GivesX Try.prog 57 [.agg h.cells] w (SweepX h ps (untieM h.core ps) 3) := by
 have hsa := (good_pays hgc).2.1
 have hl24 := (good_pays hgc).2.2
 refine givesX_of Try.func57 rfl Try.ntmps57 (by simp) ?_
 refine r_seq (by kernel_rfl) ?_
 refine s_box (v := .agg _) rfl (fun b1 => ?_)
 refine s_alloc (z := .agg zeroH.cells) (by kernel_rfl) (fun b2 => ?_)
 refine s_val (v_assign (v := .slice _ _ _) rfl) ?_
 refine s_nil ?_
 refine r_seq (by kernel_rfl) ?_
 refine s_val (v_assign (v := .slice _ _ _) rfl) ?_
 refine s_nil ?_
 refine r_seq (by kernel_rfl) ?_
 refine s_val (v_loadA (m := 42) (by kernel_rfl) rfl (.there .here) (H.size _)) ?_
 refine s_callG (by kernel_rfl) (queuesF_mono ps) (fun w hw => g_queues h ps w (hp.at hw) hb hlc) (fun F11 v11 hF11 hR11 => ?_)
 obtain ⟨q, rfl, hwt⟩ := hR11
 replace hwt := hwt.mono (more_young _ _)
 refine s_alloc (z := .agg (rowS noS)) (by kernel_rfl) (fun b5 => ?_)
 refine s_storeA (m := 4) (by kernel_rfl) rfl rfl .here (rowS_size _) (rowS_size _) (rowS_all _) ?_
 refine s_nil ?_
 refine c_seq ?_
 refine r_seq (by kernel_rfl) ?_
 refine s_val (v_loadA (m := 42) (by kernel_rfl) rfl (.there (.there .here)) (H.size _)) ?_
 refine s_call (by kernel_rfl) (fun w hw => g_Most h ps w ((hp.mono hF11).at hw) hb hlc) ?_
 refine s_val (v_move (v := .int .i64 _) rfl) ?_
 refine s_nil ?_
 refine c_block ?_
 refine c_loop (σ := SwG) (fun (t : SwG) f => ∃ g, (UnOk w h ps 3 (upTo ps (mostM h.core ps) t.bank) t ∧ t.bank ≤ 4 ∧ More F11 t.F) ∧ f = (upd (upd (upd (upd (upd (upd g 1 (.pointer (some ⟨b1, 0, none⟩))) 2 (.pointer (some ⟨b2, 0, none⟩))) 4 (t.v)) 5 (.pointer (some ⟨b5, 0, none⟩))) 13 (.agg (rowA (mostM h.core ps)))) 14 (I t.bank))) (fun (t : SwG) => Has w t.F (t.E ++ [(b5, .cells (rowS q) 98), (b2, .cells zeroH.cells 47), (b1, .cells t.h.cells 47)])) (fun (t : SwG) => 4 - t.bank) ⟨F11, h, ps, [], .slice none 0 0, [], 0, 0⟩ ⟨_, ⟨UnOk.learn (t := ⟨At w, h, ps, [], .slice none 0 0, [], 0, 0⟩) ⟨swOk_start hp hlc, rfl, rfl, rfl, fun _ _ h => h⟩ hF11 0 0, Nat.zero_le _, fun _ _ h => h⟩, live6 rfl rfl rfl rfl rfl rfl⟩ (fun w hw => hw) ?_
 rintro t _ ⟨g, ⟨ho0, hbl, hmt⟩, rfl⟩
 refine r_seq (by kernel_rfl) ?_
 refine s_val (v_lss (k := .i64) rfl rfl) ?_
 refine s_nil ?_
 refine c_seq ?_
 refine c_condR rfl rfl (fun h15 => ?_) (fun h15 => ?_)
 · refine c_exit ?_
   refine n_exit ?_
   refine n_exit ?_
   refine n_bhere ?_
   refine n_then ?_
   refine r_seq (by kernel_rfl) ?_
   refine s_val (v_loadA (m := 42) (by kernel_rfl) rfl (.app (.there (.there .here))) (H.size _)) ?_
   refine s_val (v_move (v := _) rfl) ?_
   refine s_storeA (m := 42) (by kernel_rfl) rfl rfl (.app (.there .here)) (H.size _) (H.size _) (H.all1 _) ?_
   refine s_val (v_assign (v := _) rfl) ?_
   refine s_nil ?_
   refine c_ret ?_
   refine n_done2X (E := t.E) (m := 42) rfl (by decide) (by decide) rfl (by kernel_rfl) (.app (.there .here)) (H.size _) (fun w hw => hw) (fun w hw => ?_)
   have hb4 : t.bank = 4 := by have := of_decide_eq_false h15; omega
   have e : t.q = untieM h.core ps := by
     have e1 := ho0.eq
     have e2 := ho0.c
     have e3 := ho0.p
     rw [hb4, upTo_all] at e1 e2 e3
     unfold SwG.q untieM untieXs
     rw [e1, e2, e3]
     rfl
   rw [← e]
   exact ho0.sw.doneX hw
 have hk0 := of_decide_eq_true h15
 have hki : 0 ≤ (t.bank : Int) ∧ (t.bank : Int) < 4 := ⟨by omega, by omega⟩
 have hwg := hwt.get hsa hki
 have hms := (mostM_is hgc).poss.size t.bank hki
 have hqk := queueM_len ps t.bank
 refine c_skip ?_
 refine n_then ?_
 refine c_seq ?_
 refine c_block ?_
 refine r_seq (by kernel_rfl) ?_
 refine s_val (v_move (v := .int .i64 _) rfl) ?_
 refine s_val (v_indexS (len := 4) (t := 3) (m := 1) (k := .i64) (v := .int .i64 _) (by kernel_rfl) (by kernel_rfl) rfl rfl hki (rowA_at _ hki)) ?_
 refine s_val (v_assign (v := .int .i64 _) rfl) ?_
 refine s_val (v_assign (v := .int .i64 _) rfl) ?_
 refine s_nil ?_
 refine r_seq (by kernel_rfl) ?_
 refine s_val (v_move (v := .int .i64 _) rfl) ?_
 refine s_val (v_idxA (len := 4) (size := 1) (k := .i64) (by kernel_rfl) rfl rfl hki) ?_
 refine s_val (v_load1 (v := .slice _ _ _) (by kernel_rfl) rfl (.app .here) (rowS_at0 _ hki)) ?_
 refine s_val (v_move (v := .int .i64 _) rfl) ?_
 refine s_val (v_sliceHi (m := 1) (by kernel_rfl) rfl rfl ⟨by omega, by omega⟩) ?_
 refine s_val (v_lenS (T := 30) (m := 1) (by kernel_rfl) rfl rfl) ?_
 refine s_val (v_move (v := .int .i64 _) rfl) ?_
 refine s_nil ?_
 refine c_block ?_
 refine c_loop (σ := SwG) (fun (u : SwG) f => ∃ g, (u.idle ≤ (mostM h.core ps t.bank).toNat ∧ More F11 u.F ∧ UnOk w h ps 3 (unXs ps (mostM h.core ps) t.bank u.idle) u) ∧ f = (upd (upd (upd (upd (upd (upd (upd (upd (upd g 1 (.pointer (some ⟨b1, 0, none⟩))) 2 (.pointer (some ⟨b2, 0, none⟩))) 4 (u.v)) 5 (.pointer (some ⟨b5, 0, none⟩))) 13 (.agg (rowA (mostM h.core ps)))) 14 (I t.bank)) 22 (.slice (q t.bank).a (mostM h.core ps t.bank).toNat (q t.bank).c)) 23 (I (mostM h.core ps t.bank).toNat)) 24 (I u.idle))) (fun (u : SwG) => Has w u.F (u.E ++ [(b5, .cells (rowS q) 98), (b2, .cells zeroH.cells 47), (b1, .cells u.h.cells 47)])) (fun (u : SwG) => (mostM h.core ps t.bank).toNat - u.idle) ⟨t.F, t.h, t.ps, t.xs, t.v, t.E, t.bank, 0⟩ ⟨_, ⟨Nat.zero_le _, hmt, by rw [un_none]; exact ho0.learn (fun _ _ h => h) _ _⟩, live9 rfl rfl rfl rfl rfl rfl rfl rfl rfl⟩ (fun w hw => hw) ?_
 rintro u _ ⟨g, ⟨hul, hmu, ho⟩, rfl⟩
 refine r_seq (by kernel_rfl) ?_
 refine s_val (v_lss (k := .i64) rfl rfl) ?_
 refine s_nil ?_
 refine c_seq ?_
 refine c_condR rfl rfl (fun h25 => ?_) (fun h25 => ?_)
 · have hj0 := of_decide_eq_false h25
   refine c_exit ?_
   refine n_exit ?_
   refine n_exit ?_
   refine n_bhere ?_
   refine n_bnormal ?_
   refine n_then ?_
   refine r_list (by kernel_rfl) ?_
   refine s_val (v_add rfl rfl (by omega)) ?_
   refine s_val (v_move (v := .int .i64 _) rfl) ?_
   refine s_end ?_
   refine n_round (s := t) ⟨u.F, u.h, u.ps, u.xs, u.v, u.E, t.bank + 1, 0⟩ ⟨_, ⟨by dsimp only; rw [← un_stop (j := u.idle) (by omega)]; exact ho.learn (fun _ _ h => h) _ _, by dsimp only; omega, hmu⟩, live6 rfl rfl rfl rfl rfl rfl⟩ (fun _ hw => hw) (by dsimp only; omega)
 have hj0 := of_decide_eq_true h25
 obtain ⟨bq, oq, i, haq, hi, hfi⟩ := hwg.2.2.get (j := u.idle) (by omega)
 obtain ⟨p, hst0, hst1⟩ := un_settles (m := mostM h.core ps) hi
 have hst : settles u.ps i = some p := by rw [ho.p]; exact hst0
 have hcs := cnt_settle hst
 have hsum := ho.sw.sum
 have hlen := ho.sw.len
 have hpl := hp.1
 refine c_skip ?_
 refine n_then ?_
 refine c_seq ?_
 refine c_block ?_
 refine r_seq (by kernel_rfl) ?_
 refine s_val (v_idxS (size := 1) (k := .i64) (by kernel_rfl) (congrArg (fun a => Value.slice a (mostM h.core ps t.bank).toNat (q t.bank).c) haq) rfl ⟨by omega, by omega⟩) ?_
 refine s_val (v_load1o (v := I i) (by kernel_rfl) rfl (by simpa using hmu _ _ hfi)) ?_
 refine s_val (v_assign (v := .int .i64 _) rfl) ?_
 refine s_nil ?_
 refine r_seq (by kernel_rfl) ?_
 refine s_val (v_loadA (m := 42) (by kernel_rfl) rfl (.app (.there (.there .here))) (H.size _)) ?_
 refine s_val (v_move (v := .int .i64 _) rfl) ?_
 refine s_callG (by kernel_rfl) (houseF_mono _ _ _ _) (fun w hw => g_Settle u.h u.ps i w (ho.sw.pays.at hw) (by omega) ho.sw.lc) (fun F30 v30 hF30 hR30 => ?_)
 obtain ⟨h30, rfl, hco30, hlc30, hpo30⟩ := hR30
 refine s_storeA (m := 42) (by kernel_rfl) rfl rfl (.app (.there (.there .here))) (H.size _) (H.size _) (H.all1 _) ?_
 refine s_nil ?_
 refine r_list (by kernel_rfl) ?_
 refine s_val (v_move (v := _) rfl) ?_
 refine s_val (v_move (v := .int .i64 _) rfl) ?_
 refine s_build1 (v := .int .i64 _) (e := 3) (m := 1) (by_ := 8) (by kernel_rfl) rfl rfl rfl (fill_scalar rfl) (fun b33 => ?_)
 refine s_push (e := 3) (m := 1) (by_ := 8) (by kernel_rfl) rfl rfl rfl rfl rfl ho.sw.list rfl (all_scalar rfl rfl) (by omega) (fun v34 E34 hE34 => ?_)
 refine s_val (v_assign (v := _) rfl) ?_
 refine s_end ?_
 refine n_bnormal ?_
 refine n_then ?_
 refine r_list (by kernel_rfl) ?_
 refine s_val (v_add rfl rfl (by omega)) ?_
 refine s_val (v_move (v := .int .i64 _) rfl) ?_
 refine s_end ?_
 refine n_round (s := u) ⟨F30, h30, settleP u.ps i, u.xs ++ [i], v34, E34, t.bank, u.idle + 1⟩ ⟨_, ⟨by dsimp only; omega, fun a v h => hF30 a v (hmu a v h), by dsimp only; rw [un_yes hi (by omega)]; exact ho.go hF30 hst hco30 hlc30 hpo30 hE34 _ _⟩, live9 rfl rfl rfl rfl rfl rfl rfl rfl rfl⟩ (fun _ hw => hw) (by dsimp only; omega)
end Go.Proofs.Ytmkboljfbmlebac
