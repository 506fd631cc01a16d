/- What the laws of this place stand on, part 4. Each part names its own conditions in what it states. -/
import Derived.Test.YtmkboljfbmlebacGreatQ3
import Derived.Laws.Tables
import Derived.Great.BuildSlice
namespace Go.Proofs.YtmkboljfbmlebacGreat
open Go.RowKit
set_option linter.unusedSimpArgs false
set_option linter.unusedVariables false
set_option maxRecDepth 100000
attribute [local irreducible] cC sC nC rC qw
theorem gr_QueueOf (h : H) (ps : List PayS) (bank : Int) (w : World) (hp : PaysIn (At w) h.pa h.pl ps) (hb : h.pl * 48 ≤ 281474976710656) (hlc : h.pl ≤ h.pc) : GivesE Tryz.prog 50 [.agg h.cells, I bank] w (fun v E => ListE 3 1 v (queueM ps bank).length ((queueM ps bank).map I) E) := by
 refine givesE_of Tryz.func50 rfl Tryz.ntmps50 (by simp) (r_seq (by kernel_rfl) (s_box (v := .agg _) rfl (fun b2 => ?_)))
 refine s_val (v_assign (v := .slice _ _ _) rfl) (s_nil (r_seq (by kernel_rfl) (s_val (v_assign (v := .slice _ _ _) rfl) (s_nil (r_seq (by kernel_rfl) (s_makeSet (fun b10 => ?_)))))))
 refine s_val (v_assign (v := .map _) rfl) (s_nil (c_seq (r_seq (by kernel_rfl) (s_val (v_fd 40 (by kernel_rfl) rfl) (s_val (v_load1 (v := .slice _ _ _) (by kernel_rfl) rfl (.there .here) (H.at_pays _)) (s_val (v_lenS (T := 41) (m := 6) (by kernel_rfl) rfl rfl) (s_val (v_mvI rfl) (s_nil (c_block (c_loop (σ := Nat × Value × List (Nat × Obj)) (fun ((k, v, E) : Nat × Value × List (Nat × Obj)) f => ∃ g, (k ≤ h.pl ∧ ListE 3 1 v (queueTo ps bank k).length ((queueTo ps bank k).map I) E) ∧ f = (upd (upd (upd (upd (upd (upd g 1 (I bank)) 2 (.pointer (some ⟨b2, 0, none⟩))) 5 (v)) 6 (.map (some b10))) 13 (I h.pl)) 14 (I k))) (fun ((k, v, E) : Nat × Value × List (Nat × Obj)) => Has w (At w) (E ++ [(b10, setO (queueTo ps bank k)), (b2, .cells h.cells 43)])) (fun ((k, v, E) : Nat × Value × List (Nat × Obj)) => h.pl - k) (0, .slice none 0 0, []) ⟨_, ⟨Nat.zero_le _, listE_nil _ _⟩, live6 rfl rfl rfl rfl rfl rfl⟩ (fun w hw => hw) ?_))))))))))
 rintro ⟨k, v, E⟩ _ ⟨g, ⟨hkl, hE⟩, rfl⟩
 refine r_seq (by kernel_rfl) (s_val (v_lsI rfl rfl) (s_nil (c_seq (c_condR rfl rfl (fun h15 => ?_) (fun h15 => ?_)))))
 · obtain rfl : k = h.pl := by have := of_decide_eq_false h15; omega
   refine c_exit (n_exit (n_exit (n_bhere (n_then (r_seq (by kernel_rfl) (s_val (v_move (v := _) rfl) (s_val (v_assign (v := _) rfl) (s_nil (c_ret (n_doneE rfl (by decide) ?_))))))))))
   show ListE _ _ v _ _ E
   unfold queueM
   rw [hp.1]
   exact hE
 have hk0 := of_decide_eq_true h15
 have hql := queueTo_len ps bank k
 refine c_skip (n_then (c_seq (c_block (r_seq (by kernel_rfl) (s_val (v_asI rfl) (s_nil (c_seq (r_seq (by kernel_rfl) (s_val (v_fd 40 (by kernel_rfl) rfl) (s_val (v_load1 (v := .slice _ _ _) (by kernel_rfl) rfl (.app (.there .here)) (H.at_pays _)) (s_val (v_lenS (T := 41) (m := 6) (by kernel_rfl) rfl rfl) (s_val (v_mvI rfl) (s_nil (c_block (c_loop (σ := Nat) (fun (m : Nat) f => ∃ g, (m ≤ h.pl) ∧ f = (upd (upd (upd (upd (upd (upd (upd (upd (upd (upd g 1 (I bank)) 2 (.pointer (some ⟨b2, 0, none⟩))) 5 (v)) 6 (.map (some b10))) 7 (I (bestTo ps bank (queueTo ps bank k) m))) 13 (I h.pl)) 14 (I k)) 17 (.slice h.pa h.pl h.pc)) 18 (I h.pl)) 19 (I m))) (fun (m : Nat) => Has w (At w) (E ++ [(b10, setO (queueTo ps bank k)), (b2, .cells h.cells 43)])) (fun (m : Nat) => h.pl - m) 0 ⟨_, Nat.zero_le _, live10 rfl rfl rfl rfl rfl rfl rfl rfl rfl rfl⟩ (fun w hw => hw) ?_)))))))))))))))
 rintro m _ ⟨g, hml, rfl⟩
 refine r_seq (by kernel_rfl) (s_val (v_lsI rfl rfl) (s_nil (c_seq (c_condR rfl rfl (fun h20 => ?_) (fun h20 => ?_)))))
 · obtain rfl : m = h.pl := by have := of_decide_eq_false h20; omega
   refine c_exit (n_exit (n_exit (n_bhere (n_then (r_seq (by kernel_rfl) (s_val (v_mvI rfl) (s_val (v_geq (k := .i64) rfl rfl) (s_nil (c_condR rfl rfl (fun h76 => ?_) (fun h76 => ?_))))))))))
   · have hno : decide (0 ≤ bestTo ps bank (queueTo ps bank k) ps.length) = false := by rw [hp.1]; exact h76
     refine c_skip (n_bnormal (n_then (r_list (by kernel_rfl) (s_val (v_add rfl rfl (by omega)) (s_val (v_mvI rfl) (s_end (n_round (s := (k, v, E)) (k + 1, v, E) ⟨_, ⟨by omega, by rw [queueTo_no hno]; exact hE⟩, live6 rfl rfl rfl rfl rfl rfl⟩ (fun _ hw => by dsimp only; rw [queueTo_no hno]; exact hw) (by dsimp only; omega))))))))
   have hyes : decide (0 ≤ bestTo ps bank (queueTo ps bank k) ps.length) = true := by rw [hp.1]; exact h76
   have hmine := best_mine ps bank (queueTo ps bank k) ps.length (of_decide_eq_true hyes)
   rw [hp.1] at hmine
   refine r_seq (by kernel_rfl) (s_val (v_move (v := .map _) rfl) (s_val (v_mvI rfl) (s_setAdd (by kernel_rfl) rfl rfl rfl (.app .here) hmine.2 (s_nil (r_list (by kernel_rfl) (s_val (v_move (v := _) rfl) (s_val (v_mvI rfl) (s_build1 (v := .int .i64 _) (e := 3) (m := 1) (by_ := 8) (by kernel_rfl) rfl rfl rfl (fill_scalar rfl) (fun b81 => ?_)))))))))
   refine s_push (e := 3) (m := 1) (by_ := 8) (by kernel_rfl) rfl rfl rfl rfl rfl hE rfl (all_scalar rfl rfl) (by omega) (fun v82 E82 hE82 => ?_)
   refine s_val (v_assign (v := _) rfl) (s_end (n_bnormal (n_then (r_list (by kernel_rfl) (s_val (v_add rfl rfl (by omega)) (s_val (v_mvI rfl) (s_end (n_round (s := (k, v, E)) (k + 1, v82, E82) ⟨_, ⟨by omega, by rw [queueTo_yes hyes, List.map_append, List.length_append, hp.1]; exact hE82⟩, live6 rfl rfl rfl rfl rfl rfl⟩ (fun _ hw => by dsimp only; rw [queueTo_yes hyes, hp.1]; exact hw) (by dsimp only; omega)))))))))
 have hm0 := of_decide_eq_true h20
 obtain ⟨p, hpm, hd, ht⟩ := hp.get (k := m) (by omega)
 obtain ⟨b, o, hpa, hc⟩ := hp.some (k := m) (by omega)
 refine c_skip (n_then (c_seq (c_block (r_seq (by kernel_rfl) (s_val (v_mvI rfl) (s_val (v_idxS (size := 6) (k := .i64) (by kernel_rfl) (congrArg (fun a => Value.slice a h.pl h.pc) hpa) rfl ⟨by omega, by omega⟩) (s_val (v_loadNo (cs := p.cells) (m := 6) (by kernel_rfl) rfl rfl (hc m p hpm)) (s_alloc (z := zeroOf Tryz.prog 67) (by kernel_rfl) (fun b9 => ?_)))))))))
 refine s_val (v_asI rfl) (s_storeA (m := 6) (by kernel_rfl) rfl rfl .here (by kernel_rfl) rfl (PayS.all1 _) (s_nil (c_seq (r_seq (by kernel_rfl) (s_val (v_fd 4 (by kernel_rfl) rfl) (s_val (v_ldI (by kernel_rfl) rfl .here rfl) (s_val (v_neq (k := .i64) rfl rfl) (s_val (v_mvB rfl) (s_splitN (s := 27) rfl (fun h27 => ?_) (fun h27 => ?_))))))))))
 · refine s_pass rfl rfl (congrArg not h27) (s_pass rfl rfl (congrArg not h27) (s_pass rfl rfl (congrArg not h27) (s_pass rfl rfl (congrArg not h27) (s_val (v_pickT (v := .bool _) rfl (congrArg not h27) rfl) (s_val (v_mvB rfl) (s_pass (g := true) rfl rfl rfl (s_pass (g := true) rfl rfl rfl (s_pass (g := true) rfl rfl rfl (s_val (v_pickT (v := .bool _) rfl rfl rfl) (s_nil (c_condTh rfl rfl rfl (c_exit (n_exit (n_bhere (n_then (r_list (by kernel_rfl) (s_val (v_add rfl rfl (by omega)) (s_val (v_mvI rfl) (s_end ?_)))))))))))))))))))
   refine n_round (m + 1) ⟨_, (by omega), live10 rfl rfl rfl rfl (congrArg I (by rw [best_step hpm]; simp only [wantB, better, *, bls, cond_true, cond_false, if_true, if_false, Bool.false_eq_true, decide_true, decide_false])) rfl rfl rfl rfl rfl⟩ (fun _ hw => hw.tail) (by omega)
 refine s_want rfl rfl (congrArg not h27) (s_val (v_fd 0 (by kernel_rfl) rfl) (s_want rfl rfl (congrArg not h27) (s_val (v_ldI (by kernel_rfl) rfl .here rfl) (s_want rfl rfl (congrArg not h27) (s_val (v_mvI rfl) (s_want rfl rfl (congrArg not h27) (s_val (v_neq (k := .i64) rfl rfl) (s_val (v_pickF (v := .bool _) rfl (congrArg not h27) rfl) (s_val (v_mvB rfl) (s_splitN (s := 33) rfl (fun h33 => ?_) (fun h33 => ?_)))))))))))
 · refine s_pass rfl rfl (congrArg not h33) (s_pass rfl rfl (congrArg not h33) (s_pass rfl rfl (congrArg not h33) (s_val (v_pickT (v := .bool _) rfl (congrArg not h33) rfl) (s_nil (c_condTh rfl rfl rfl (c_exit (n_exit (n_bhere (n_then (r_list (by kernel_rfl) (s_val (v_add rfl rfl (by omega)) (s_val (v_mvI rfl) (s_end (n_round (m + 1) ⟨_, (by omega), live10 rfl rfl rfl rfl (congrArg I (by rw [best_step hpm]; simp only [wantB, better, *, bls, cond_true, cond_false, if_true, if_false, Bool.false_eq_true, decide_true, decide_false])) rfl rfl rfl rfl rfl⟩ (fun _ hw => hw.tail) (by omega)))))))))))))))
 refine s_want rfl rfl (congrArg not h33) (s_val (v_move (v := .map _) rfl) (s_want rfl rfl (congrArg not h33) (s_val (v_mvI rfl) (s_want rfl rfl (congrArg not h33) (s_val (v_setHas (by kernel_rfl) rfl rfl (.there (.app .here))) (s_val (v_pickF (v := .bool _) rfl (congrArg not h33) rfl) (s_nil (c_cond rfl rfl (fun h37 => ?_) (fun h37 => ?_)))))))))
 · refine c_exit (n_exit (n_bhere (n_then (r_list (by kernel_rfl) (s_val (v_add rfl rfl (by omega)) (s_val (v_mvI rfl) (s_end (n_round (m + 1) ⟨_, (by omega), live10 rfl rfl rfl rfl (congrArg I (by rw [best_step hpm]; simp only [wantB, better, *, bls, cond_true, cond_false, if_true, if_false, Bool.false_eq_true, decide_true, decide_false])) rfl rfl rfl rfl rfl⟩ (fun _ hw => hw.tail) (by omega)))))))))
 refine c_skip (n_then (d_seq (by kernel_rfl) (by kernel_rfl) (fun w hw => hw.drew) (by kernel_rfl) (q_val (v_mvI rfl) (q_val (v_lsI rfl rfl) (q_val (v_mvB rfl) (q_split (s := 40) rfl (fun h40 => ?_) (fun h40 => ?_)))))))
 · refine q_pass rfl rfl h40 (q_pass rfl rfl h40 (q_pass rfl rfl h40 (q_pass rfl rfl h40 (q_pass rfl rfl h40 (q_pass rfl rfl h40 (q_pass rfl rfl h40 (q_pass rfl rfl h40 (q_pass rfl rfl h40 (q_val (v_pickT (v := .bool _) rfl h40 rfl) (q_val (v_mvB rfl) (q_pass (g := true) rfl rfl rfl (q_pass (g := true) rfl rfl rfl (q_pass (g := true) rfl rfl rfl (q_pass (g := true) rfl rfl rfl (q_pass (g := true) rfl rfl rfl (q_pass (g := true) rfl rfl rfl (q_pass (g := true) rfl rfl rfl (q_pass (g := true) rfl rfl rfl (q_pass (g := true) rfl rfl rfl ?_)))))))))))))))))))
   refine q_pass (g := true) rfl rfl rfl (q_passU rfl rfl (q_passU rfl rfl (q_passU rfl rfl (q_passU rfl rfl (q_passU rfl rfl (q_passU rfl rfl (q_passU rfl rfl (q_passU rfl rfl (q_passU rfl rfl (q_pass (g := true) rfl rfl rfl (q_val (v_pickT (v := .bool _) rfl rfl rfl) (q_nil (c_condTh rfl rfl rfl (r_list (by kernel_rfl) (s_val (v_mvI rfl) (s_val (v_asI rfl) (s_end (n_bnormal (n_then ?_)))))))))))))))))))
   refine r_list (by kernel_rfl) (s_val (v_add rfl rfl (by omega)) (s_val (v_mvI rfl) (s_end (n_round (m + 1) ⟨_, (by omega), live10 rfl rfl rfl rfl (congrArg I (by rw [best_step hpm]; simp only [wantB, better, *, bls, cond_true, cond_false, if_true, if_false, Bool.false_eq_true, decide_true, decide_false])) rfl rfl rfl rfl rfl⟩ (fun _ hw => hw.tail) (by omega)))))
 have hq0 := of_decide_eq_false h40
 have hr := best_range ps bank (queueTo ps bank k) m
 obtain ⟨q, hq, hqd, hqt⟩ := hp.get (k := (bestTo ps bank (queueTo ps bank k) m).toNat) (by omega)
 obtain ⟨hr0, hr1⟩ : 0 ≤ bestTo ps bank (queueTo ps bank k) m ∧ bestTo ps bank (queueTo ps bank k) m < m := by omega
 refine q_want rfl rfl h40 (q_val (v_fd 3 (by kernel_rfl) rfl) (q_want rfl rfl h40 (q_val (v_ldI (by kernel_rfl) rfl .here rfl) (q_want rfl rfl h40 (q_val (v_fd 40 (by kernel_rfl) rfl) (q_want rfl rfl h40 (q_val (v_load1 (v := .slice _ _ _) (by kernel_rfl) rfl (.there (.app (.there .here))) (H.at_pays _)) (q_want rfl rfl h40 (q_val (v_mvI rfl) (q_want rfl rfl h40 (q_val (v_idxS (size := 6) (k := .i64) (by kernel_rfl) (congrArg (fun a => Value.slice a h.pl h.pc) hpa) rfl ⟨by omega, by omega⟩) (q_want rfl rfl h40 (q_val (v_fd 3 (by kernel_rfl) rfl) (q_want rfl rfl h40 (q_val (v_load1o (by kernel_rfl) rfl (hc _ q hq 3 _ rfl)) (q_want rfl rfl h40 (q_val (v_lsI rfl rfl) (q_val (v_pickF (v := .bool _) rfl h40 rfl) (q_val (v_mvB rfl) ?_)))))))))))))))))))
 refine q_split (s := 51) rfl (fun h51 => ?_) (fun h51 => ?_)
 · refine q_pass rfl rfl h51 (q_pass rfl rfl h51 (q_pass rfl rfl h51 (q_pass rfl rfl h51 (q_pass rfl rfl h51 (q_pass rfl rfl h51 (q_pass rfl rfl h51 (q_pass rfl rfl h51 (q_pass rfl rfl h51 (q_pass rfl rfl h51 (q_passU rfl rfl (q_passU rfl rfl (q_passU rfl rfl (q_passU rfl rfl (q_passU rfl rfl (q_passU rfl rfl (q_passU rfl rfl (q_passU rfl rfl (q_passU rfl rfl (q_pass rfl rfl h51 ?_)))))))))))))))))))
   refine q_val (v_pickT (v := .bool _) rfl h51 rfl) (q_nil (c_condTh rfl rfl rfl (r_list (by kernel_rfl) (s_val (v_mvI rfl) (s_val (v_asI rfl) (s_end (n_bnormal (n_then (r_list (by kernel_rfl) (s_val (v_add rfl rfl (by omega)) (s_val (v_mvI rfl) (s_end (n_round (m + 1) ⟨_, (by omega), live10 rfl rfl rfl rfl (congrArg I (by rw [best_step hpm]; simp only [wantB, better, *, bls, cond_true, cond_false, if_true, if_false, Bool.false_eq_true, decide_true, decide_false])) rfl rfl rfl rfl rfl⟩ (fun _ hw => hw.tail) (by omega))))))))))))))
 refine q_want rfl rfl h51 (q_val (v_fd 3 (by kernel_rfl) rfl) (q_want rfl rfl h51 (q_val (v_ldI (by kernel_rfl) rfl .here rfl) (q_want rfl rfl h51 (q_val (v_fd 40 (by kernel_rfl) rfl) (q_want rfl rfl h51 (q_val (v_load1 (v := .slice _ _ _) (by kernel_rfl) rfl (.there (.app (.there .here))) (H.at_pays _)) (q_want rfl rfl h51 (q_val (v_mvI rfl) (q_want rfl rfl h51 (q_val (v_idxS (size := 6) (k := .i64) (by kernel_rfl) (congrArg (fun a => Value.slice a h.pl h.pc) hpa) rfl ⟨by omega, by omega⟩) (q_want rfl rfl h51 (q_val (v_fd 3 (by kernel_rfl) rfl) (q_want rfl rfl h51 (q_val (v_load1o (by kernel_rfl) rfl (hc _ q hq 3 _ rfl)) (q_want rfl rfl h51 (q_val (v_eql (k := .i64) rfl rfl) (q_want rfl rfl h51 (q_val (v_mvB rfl) ?_)))))))))))))))))))
 refine q_splitR (s := 61) rfl (fun h61 => ?_) (fun h61 => ?_)
 · refine q_pass rfl rfl h61 (q_pass rfl rfl h61 (q_pass rfl rfl h61 (q_pass rfl rfl h61 (q_pass rfl rfl h61 (q_pass rfl rfl h61 (q_pass rfl rfl h61 (q_pass rfl rfl h61 (q_pass rfl rfl h61 (q_want rfl rfl h51 (q_val (v_pickF (v := .bool _) rfl h61 rfl) (q_val (v_pickF (v := .bool _) rfl h51 rfl) (q_nil (c_condFh rfl rfl rfl (c_skip (n_bnormal (n_then (r_list (by kernel_rfl) (s_val (v_add rfl rfl (by omega)) (s_val (v_mvI rfl) ?_)))))))))))))))))))
   refine s_end (n_round (m + 1) ⟨_, (by omega), live10 rfl rfl rfl rfl (congrArg I (by rw [best_step hpm]; simp only [wantB, better, *, bls, cond_true, cond_false, if_true, if_false, Bool.false_eq_true, decide_true, decide_false])) rfl rfl rfl rfl rfl⟩ (fun _ hw => hw.tail) (by omega))
 refine q_want rfl rfl h61 (q_val (v_fd 5 (by kernel_rfl) rfl) (q_want rfl rfl h61 (q_val (v_ldI (by kernel_rfl) rfl .here rfl) (q_want rfl rfl h61 (q_val (v_fd 40 (by kernel_rfl) rfl) (q_want rfl rfl h61 (q_val (v_load1 (v := .slice _ _ _) (by kernel_rfl) rfl (.there (.app (.there .here))) (H.at_pays _)) (q_want rfl rfl h61 (q_val (v_mvI rfl) (q_want rfl rfl h61 (q_val (v_idxS (size := 6) (k := .i64) (by kernel_rfl) (congrArg (fun a => Value.slice a h.pl h.pc) hpa) rfl ⟨by omega, by omega⟩) (q_want rfl rfl h61 (q_val (v_fd 5 (by kernel_rfl) rfl) (q_want rfl rfl h61 (q_val (v_load1o (by kernel_rfl) rfl (hc _ q hq 5 _ rfl)) (q_want rfl rfl h61 (q_val (v_lsI rfl rfl) (q_want rfl rfl h51 (q_val (v_pickT (v := .bool _) rfl h61 rfl) ?_)))))))))))))))))))
 refine q_val (v_pickF (v := .bool _) rfl h51 rfl) (q_nil (c_condR rfl rfl (fun h72 => ?_) (fun h72 => ?_)))
 · refine c_skip (n_bnormal (n_then (r_list (by kernel_rfl) (s_val (v_add rfl rfl (by omega)) (s_val (v_mvI rfl) (s_end (n_round (m + 1) ⟨_, (by omega), live10 rfl rfl rfl rfl (congrArg I (by rw [best_step hpm]; simp only [wantB, better, *, bls, cond_true, cond_false, if_true, if_false, Bool.false_eq_true, decide_true, decide_false])) rfl rfl rfl rfl rfl⟩ (fun _ hw => hw.tail) (by omega))))))))
 refine r_list (by kernel_rfl) (s_val (v_mvI rfl) (s_val (v_asI rfl) (s_end (n_bnormal (n_then (r_list (by kernel_rfl) (s_val (v_add rfl rfl (by omega)) (s_val (v_mvI rfl) (s_end (n_round (m + 1) ⟨_, (by omega), live10 rfl rfl rfl rfl (congrArg I (by rw [best_step hpm]; simp only [wantB, better, *, bls, cond_true, cond_false, if_true, if_false, Bool.false_eq_true, decide_true, decide_false])) rfl rfl rfl rfl rfl⟩ (fun _ hw => hw.tail) (by omega)))))))))))
theorem gr_CopyHouseE (h : H) (ps : List PayS) (w : World) (hp : PaysIn (At w) h.pa h.pl ps) (hb : h.pl * 48 ≤ 281474976710656) (hlc : h.pl ≤ h.pc) : GivesE Tryz.prog 34 [.agg h.cells] w (fun v E => ∃ pa pc, v = .agg ({ h with pa := pa, pc := pc } : H).cells ∧ PaysE pa h.pl pc ps E) := by
 refine givesE_of Tryz.func34 rfl Tryz.ntmps34 (by simp) (r_seq (by kernel_rfl) (s_box (v := .agg _) rfl (fun b1 => ?_)))
 refine s_alloc (z := .agg zeroH.cells) (by kernel_rfl) (fun b2 => ?_)
 refine s_nil (r_seq (by kernel_rfl) (s_val (v_fd 40 (by kernel_rfl) rfl) (s_val (v_load1 (v := .slice _ _ _) (by kernel_rfl) rfl (.there .here) (H.at_pays _)) (s_appendCopy (by kernel_rfl) rfl rfl rfl hp hb (fun hz5 => ?_) (fun b5 c5 cs5 hpos5 hc5 hs5 hcs5 => ?_)))))
 · refine s_val (v_fd 40 (by kernel_rfl) rfl) (s_store1 (v := .slice _ _ _) (by kernel_rfl) rfl rfl (.there .here) (H.set_pays _) rfl (s_nil (r_seq (by kernel_rfl) (s_val (v_loadA (m := 42) (by kernel_rfl) rfl (.there .here) (H.size _)) (s_storeA (m := 42) (by kernel_rfl) rfl rfl .here (H.size _) (H.size _) (H.all1 _) (s_nil (c_ret (n_doneCE (E := []) (m := 42) rfl (by decide) rfl (by kernel_rfl) .here (H.size _) (fun w hw => hw) ⟨none, 0, ?_, hp.1, by omega, .inl ⟨rfl, hz5, rfl, rfl⟩⟩))))))))
   exact congrArg (fun n => Value.agg (H.cells { h with pa := none, pl := n, pc := 0 })) hz5.symm
 refine s_val (v_fd 40 (by kernel_rfl) rfl) (s_store1 (v := .slice _ _ _) (by kernel_rfl) rfl rfl (.there (.there .here)) (H.set_pays _) rfl (s_nil (r_seq (by kernel_rfl) (s_val (v_loadA (m := 42) (by kernel_rfl) rfl (.there (.there .here)) (H.size _)) (s_storeA (m := 42) (by kernel_rfl) rfl rfl (.there .here) (H.size _) (H.size _) (H.all1 _) (s_nil (c_ret (n_doneCE (E := [_]) (m := 42) rfl (by decide) rfl (by kernel_rfl) (.there .here) (H.size _) (fun w hw => hw) ⟨_, _, rfl, hp.1, hc5, .inr ⟨b5, _, cs5, rfl, rfl, hs5, hcs5⟩⟩))))))))
theorem gr_SettlePay (h : H) (ps : List PayS) (n : Int) (w : World) (hp : PaysIn (At w) h.pa h.pl ps) (hb : h.pl * 48 ≤ 281474976710656) (hlc : h.pl ≤ h.pc) : GivesF Tryz.prog 51 [.agg h.cells, I n] w (HouseF h ps (settleC h.core ps n) (settleP ps n)) := by
 refine givesF_of Tryz.func51 rfl Tryz.ntmps51 (by simp) (r_seq (by kernel_rfl) (s_box (v := .agg _) rfl (fun b2 => ?_)))
 refine s_alloc (z := .agg zeroH.cells) (by kernel_rfl) (fun b4 => ?_)
 refine s_nil (c_seq (r_seq (by kernel_rfl) (s_val (v_mvI rfl) (s_val (v_fd 40 (by kernel_rfl) rfl) (s_val (v_load1 (v := .slice _ _ _) (by kernel_rfl) rfl (.there .here) (H.at_pays _)) (s_val (v_lenS (T := 41) (m := 6) (by kernel_rfl) rfl rfl) (s_val (v_sub rfl rfl (by omega)) (s_call (by kernel_rfl) (fun w hw => gr_within _ _ _ w) (s_val (v_not rfl) (s_val (v_mvB rfl) (s_splitN (s := 13) rfl (fun h13 => ?_) (fun h13 => ?_))))))))))))
 · refine s_pass rfl rfl (congrArg not h13) (s_pass rfl rfl (congrArg not h13) (s_pass rfl rfl (congrArg not h13) (s_pass rfl rfl (congrArg not h13) (s_pass rfl rfl (congrArg not h13) (s_pass rfl rfl (congrArg not h13) (s_pass rfl rfl (congrArg not h13) (s_val (v_pickT (v := .bool _) rfl (congrArg not h13) rfl) (s_nil (c_condTh rfl rfl rfl (r_seq (by kernel_rfl) (s_val (v_loadA (m := 42) (by kernel_rfl) rfl (.there .here) (H.size _)) (s_storeA (m := 42) (by kernel_rfl) rfl rfl .here (H.size _) (H.size _) (H.all1 _) (s_nil (c_ret (n_ret (n_doneCF (m := 42) rfl (by decide) rfl (by kernel_rfl) .here (H.size _) (fun w hw => ⟨h, rfl, ?_, hlc, .inl ⟨rfl, rfl, ?_⟩⟩)))))))))))))))))
   · have es : settles ps n = none := settles_out (by rw [hp.1]; intro hh; have := within_iff.2 (show 0 ≤ n ∧ n ≤ (h.pl : Int) - 1 by omega); rw [h13] at this; cases this)
     simp only [settleC, es]
   · have es : settles ps n = none := settles_out (by rw [hp.1]; intro hh; have := within_iff.2 (show 0 ≤ n ∧ n ≤ (h.pl : Int) - 1 by omega); rw [h13] at this; cases this)
     simp only [settleP, es]
 obtain ⟨hn0, hn1⟩ := within_iff.1 h13
 obtain ⟨p, hpn, hd, ht⟩ := hp.get (k := n.toNat) (by omega)
 obtain ⟨b, o, hpa, hc⟩ := hp.some (k := n.toNat) (by omega)
 refine s_want rfl rfl (congrArg not h13) (s_val (v_fd 40 (by kernel_rfl) rfl) (s_want rfl rfl (congrArg not h13) (s_val (v_load1 (v := .slice _ _ _) (by kernel_rfl) rfl (.there .here) (H.at_pays _)) (s_want rfl rfl (congrArg not h13) (s_val (v_mvI rfl) (s_want rfl rfl (congrArg not h13) (s_val (v_idxS (size := 6) (k := .i64) (by kernel_rfl) (congrArg (fun a => Value.slice a h.pl h.pc) hpa) rfl ⟨by omega, by omega⟩) (s_want rfl rfl (congrArg not h13) (s_val (v_fd 4 (by kernel_rfl) rfl) (s_want rfl rfl (congrArg not h13) (s_val (v_load1o (by kernel_rfl) rfl (hc _ p hpn 4 _ rfl)) (s_want rfl rfl (congrArg not h13) (s_val (v_neq (k := .i64) rfl rfl) (s_val (v_pickF (v := .bool _) rfl (congrArg not h13) rfl) (s_nil (c_condN rfl rfl (fun h21 => ?_) (fun h21 => ?_)))))))))))))))))
 · refine r_seq (by kernel_rfl) (s_val (v_loadA (m := 42) (by kernel_rfl) rfl (.there .here) (H.size _)) (s_storeA (m := 42) (by kernel_rfl) rfl rfl .here (H.size _) (H.size _) (H.all1 _) (s_nil (c_ret (n_ret (n_doneCF (m := 42) rfl (by decide) rfl (by kernel_rfl) .here (H.size _) (fun w hw => ⟨h, rfl, ?_, hlc, .inl ⟨rfl, rfl, ?_⟩⟩)))))))
   · have es : settles ps n = none := settles_not hpn (of_decide_eq_false h21)
     simp only [settleC, es]
   · have es : settles ps n = none := settles_not hpn (of_decide_eq_false h21)
     simp only [settleP, es]
 refine c_skip (n_then (r_seq (by kernel_rfl) (s_val (v_loadA (m := 42) (by kernel_rfl) rfl (.there .here) (H.size _)) (s_callE (by kernel_rfl) (fun w hw => gr_CopyHouseE h ps w (hp.at hw) hb hlc) (fun v24 E24 hR24 => ?_)))))
 obtain ⟨pa24, pc24, rfl, hpe24⟩ := hR24
 obtain ⟨b24, t24, cs24, rfl, rfl, hsz24, hcs24⟩ := hpe24.some (by omega)
 have hle24 := hpe24.2.1
 refine s_storeA (m := 42) (by kernel_rfl) rfl rfl (.there (.there .here)) (H.size _) (H.size _) (H.all1 _) (s_nil (r_seq (by kernel_rfl) (s_val (v_fd 40 (by kernel_rfl) rfl) (s_val (v_load1 (v := .slice _ _ _) (by kernel_rfl) rfl (.there (.there .here)) (H.at_pays _)) (s_val (v_mvI rfl) (s_val (v_idxS (size := 6) (k := .i64) (by kernel_rfl) rfl rfl ⟨by omega, by dsimp only; omega⟩) (s_val (v_loadN (cs' := p.cells) (m := 6) (by kernel_rfl) rfl .here rfl (hcs24.extract hpn (by rw [hsz24]; omega))) (s_alloc (z := zeroOf Tryz.prog 67) (by kernel_rfl) (fun b5 => ?_)))))))))
 refine s_storeA (m := 6) (by kernel_rfl) rfl rfl .here (by kernel_rfl) rfl (PayS.all1 _) (s_nil (r_seq (by kernel_rfl) (s_val (v_fd 40 (by kernel_rfl) rfl) (s_val (v_load1 (v := .slice _ _ _) (by kernel_rfl) rfl (.there (.there (.there .here))) (H.at_pays _)) (s_val (v_mvI rfl) (s_val (v_idxS (size := 6) (k := .i64) (by kernel_rfl) rfl rfl ⟨by omega, by dsimp only; omega⟩) (s_val (v_fd 4 (by kernel_rfl) rfl) (s_store1 (v := .int .i64 _) (by kernel_rfl) rfl rfl (.there .here) ⟨by rw [hsz24]; omega, rfl⟩ rfl (s_nil (r_seq (by kernel_rfl) (s_val (v_loadA (m := 42) (by kernel_rfl) rfl (.there (.there (.there .here))) (H.size _)) (s_val (v_fd 0 (by kernel_rfl) rfl) (s_val (v_ldI (by kernel_rfl) rfl .here rfl) (s_val (v_fd 1 (by kernel_rfl) rfl) (s_val (v_ldI (by kernel_rfl) rfl .here rfl) (s_val (v_fd 2 (by kernel_rfl) rfl) (s_val (v_ldI (by kernel_rfl) rfl .here rfl) (s_call (by kernel_rfl) (fun w hw => gr_MoveSum _ _ _ _ w) (s_storeA (m := 42) (by kernel_rfl) rfl rfl (.there (.there .here)) (H.size _) (H.size _) (H.all1 _) ?_)))))))))))))))))))
 refine s_nil (c_ret (n_doneCF (m := 42) rfl (by decide) rfl (by kernel_rfl) (.there (.there .here)) (H.size _) (fun w hw => ?_)))
 have es := settles_of hn0 hpn (of_decide_eq_true h21)
 refine ⟨_, rfl, ?_, ?_, .inr ?_⟩
 · rw [core_move]; simp only [settleC, es]; rfl
 · rw [move_pl, move_pc]; exact hle24
 · rw [move_pl, move_pa]; simp only [settleP, es]; exact own_pays hw (.there .here) (by rw [List.length_set]; exact hp.1) (hcs24.settled hpn)
end Go.Proofs.YtmkboljfbmlebacGreat
namespace Go.Proofs.YtmkboljfbmlebacGreat
open Go.RowKit
set_option linter.unusedSimpArgs false
set_option linter.unusedVariables false
structure QS where
 c : H
 ps : List PayS
 xs : List Int
def firstM (c : H) (ps : List PayS) (bank : Int) : Option Int := match queueM ps bank with
 | [] => none
 | i :: _ => match ps[i.toNat]? with
   | some p => bif maySendM c bank p.dst p.amt then some i else none
   | none => none
def cnt (ps : List PayS) : Nat := ps.countP fun p => decide (p.sta = 1)
def QS.go (s : QS) (i : Int) : QS := { c := settleC s.c s.ps i, ps := settleP s.ps i, xs := s.xs ++ [i] }
theorem queueTo_mine (ps : List PayS) (bank : Int) : ∀ k, ∀ i ∈ queueTo ps bank k, Mine ps bank i
 | 0, i, h => by simp [queueTo] at h
 | k + 1, i, h => by
   cases hb : decide (0 ≤ bestTo ps bank (queueTo ps bank k) ps.length)
   · rw [queueTo_no hb] at h; exact queueTo_mine ps bank k i h
   · rw [queueTo_yes hb] at h
     rcases List.mem_append.1 h with h | h
     · exact queueTo_mine ps bank k i h
     · simp at h; subst h; exact (best_mine ps bank _ _ (of_decide_eq_true hb)).1
theorem queueM_mine {ps : List PayS} {bank i : Int} (h : i ∈ queueM ps bank) : Mine ps bank i := queueTo_mine ps bank _ i h
theorem Mine.settles {ps : List PayS} {bank i : Int} (h : Mine ps bank i) : ∃ p, settles ps i = some p ∧ ps[i.toNat]? = some p ∧ p.sta = 1 ∧ p.src = bank := by
 obtain ⟨h0, p, hp, h1, h2⟩ := h
 exact ⟨p, by unfold Proofs.YtmkboljfbmlebacGreat.settles; simp [h0, hp, h1], hp, h1, h2⟩
theorem settleP_len (ps : List PayS) (n : Int) : (settleP ps n).length = ps.length := by unfold settleP; split <;> simp
theorem settles_spec {ps : List PayS} {n : Int} {p : PayS} (h : settles ps n = some p) : 0 ≤ n ∧ ps[n.toNat]? = some p ∧ p.sta = 1 := by
 unfold settles at h
 split at h
 · rename_i h0
   split at h
   · rename_i q hq
     split at h
     · rename_i h1
       simp at h; subst h
       exact ⟨h0, hq, h1⟩
     · cases h
   · cases h
 · cases h
theorem cnt_settle {ps : List PayS} {n : Int} {p : PayS} (h : settles ps n = some p) : cnt (settleP ps n) + 1 = cnt ps := by
 obtain ⟨h0, hp, h1⟩ := settles_spec h
 obtain ⟨hlt, he⟩ := List.getElem?_eq_some_iff.1 hp
 simp only [settleP, h, cnt]
 rw [List.countP_set hlt]
 have : 0 < ps.countP fun p => decide (p.sta = 1) := List.countP_pos_iff.2 ⟨p, List.mem_of_getElem? hp, by simpa using h1⟩
 simp [he, h1]
 omega
theorem firstM_spec {c : H} {ps : List PayS} {bank i : Int} (h : firstM c ps bank = some i) : ∃ p r, queueM ps bank = i :: r ∧ settles ps i = some p ∧ p.src = bank ∧ maySendM c bank p.dst p.amt = true := by
 unfold firstM at h
 split at h
 · cases h
 · rename_i j r hq
   split at h
   · rename_i p hp
     cases hm : maySendM c bank p.dst p.amt
     · rw [hm] at h; cases h
     · rw [hm] at h
       simp at h; subst h
       obtain ⟨q, h1, h2, h3, h4⟩ := (queueM_mine (ps := ps) (bank := bank) (i := j) (by rw [hq]; simp)).settles
       rw [h2] at hp; simp at hp; subst hp
       exact ⟨q, r, hq, h1, h4, hm⟩
   · cases h
theorem firstM_yes {c : H} {ps : List PayS} {bank i : Int} {r : List Int} {p : PayS} (hq : queueM ps bank = i :: r) (hp : ps[i.toNat]? = some p) (hm : maySendM c bank p.dst p.amt = true) : firstM c ps bank = some i := by
 simp only [firstM, hq, hp, hm, cond_true]
theorem firstM_no {c : H} {ps : List PayS} {bank i : Int} {r : List Int} {p : PayS} (hq : queueM ps bank = i :: r) (hp : ps[i.toNat]? = some p) (hm : maySendM c bank p.dst p.amt = false) : firstM c ps bank = none := by
 simp only [firstM, hq, hp, hm, cond_false]
theorem firstM_nil {c : H} {ps : List PayS} {bank : Int} (hq : queueM ps bank = []) : firstM c ps bank = none := by
 simp only [firstM, hq]
def drain (bank : Int) (s : QS) : QS := match h : firstM s.c s.ps bank with
  | some i => drain bank (s.go i)
  | none => s
termination_by cnt s.ps
decreasing_by
  obtain ⟨p, r, _, h1, _⟩ := firstM_spec h
  have := cnt_settle h1
  simp only [QS.go]
  omega
theorem drain_go {bank i : Int} {s : QS} (h : firstM s.c s.ps bank = some i) : drain bank s = drain bank (s.go i) := by
 rw [drain]
 split
 · rename_i j hj; rw [h] at hj; simp at hj; subst hj; rfl
 · rename_i hj; rw [h] at hj; cases hj
theorem drain_end {bank : Int} {s : QS} (h : firstM s.c s.ps bank = none) : drain bank s = s := by
 rw [drain]
 split
 · rename_i j hj; rw [h] at hj; cases hj
 · rfl
theorem drain_facts (bank : Int) (s : QS) : firstM (drain bank s).c (drain bank s).ps bank = none ∧ (drain bank s).xs.length + cnt (drain bank s).ps = s.xs.length + cnt s.ps ∧ s.xs.length ≤ (drain bank s).xs.length := by
 generalize hn : cnt s.ps = n
 induction n using Nat.strongRecOn generalizing s with
 | _ n ih =>
   cases h : firstM s.c s.ps bank with
   | none => rw [drain_end h]; exact ⟨h, by omega, Nat.le_refl _⟩
   | some i =>
     rw [drain_go h]
     obtain ⟨p, r, _, h1, _⟩ := firstM_spec h
     have := cnt_settle h1
     obtain ⟨e1, e2, e3⟩ := ih (cnt (s.go i).ps) (by simp only [QS.go]; omega) (s.go i) rfl
     refine ⟨e1, ?_, ?_⟩
     · rw [e2]; simp only [QS.go, List.length_append, List.length_cons, List.length_nil]; omega
     · simp only [QS.go, List.length_append, List.length_cons, List.length_nil] at e3; simp only [QS.go] at *; omega
def sweepFrom (bank idle : Nat) (s : QS) : QS :=
  if h : idle < 4 then
    if h2 : (drain bank s).xs.length = s.xs.length then sweepFrom ((bank + 1) % 4) (idle + 1) (drain bank s) else sweepFrom ((bank + 1) % 4) 0 (drain bank s)
  else s
termination_by 5 * cnt s.ps + (4 - idle)
decreasing_by
  all_goals
    have := drain_facts bank s
    omega
theorem sweep_end {bank idle : Nat} {s : QS} (h : ¬ idle < 4) : sweepFrom bank idle s = s := by rw [sweepFrom, dif_neg h]
theorem sweep_idle {bank idle : Nat} {s s' : QS} (h : idle < 4) (hd : drain bank s = s') (h2 : s'.xs.length = s.xs.length) : sweepFrom bank idle s = sweepFrom ((bank + 1) % 4) (idle + 1) s' := by
 subst hd
 rw [sweepFrom, dif_pos h]
 simp only [h2, dite_true]
theorem sweep_busy {bank idle : Nat} {s s' : QS} (h : idle < 4) (hd : drain bank s = s') (h2 : ¬ s'.xs.length = s.xs.length) : sweepFrom bank idle s = sweepFrom ((bank + 1) % 4) 0 s' := by
 subst hd
 rw [sweepFrom, dif_pos h]
 simp only [h2, dite_false]
def sweepM (c : H) (ps : List PayS) : QS := bif goodB c ps then sweepFrom 0 0 ⟨c, ps, []⟩ else ⟨c, ps, []⟩
end Go.Proofs.YtmkboljfbmlebacGreat
namespace Go.Proofs.YtmkboljfbmlebacGreat
open Go.RowKit
set_option linter.unusedSimpArgs false
set_option linter.unusedVariables false
structure SwG where
 F : Addr → Value → Prop
 h : H
 ps : List PayS
 xs : List Int
 v : Value
 E : List (Nat × Obj)
 bank : Nat
 idle : Nat
def SwG.q (t : SwG) : QS := ⟨t.h.core, t.ps, t.xs⟩
structure SwOk (w : World) (h0 : H) (ps0 : List PayS) (e : Nat) (t : SwG) : Prop where
 pays : PaysIn t.F t.h.pa t.h.pl t.ps
 out : (t.h.pa = h0.pa ∧ t.h.pl = h0.pl ∧ t.ps = ps0) ∨ PaysIn (Young w t.F) t.h.pa t.h.pl t.ps
 len : t.h.pl = h0.pl
 lc : t.h.pl ≤ t.h.pc
 list : ListE e 1 t.v t.xs.length (t.xs.map I) t.E
 sum : t.xs.length + cnt t.ps ≤ h0.pl
theorem swOk_start {w : World} {h : H} {ps : List PayS} {e : Nat} (hp : PaysIn (At w) h.pa h.pl ps) (hlc : h.pl ≤ h.pc) : SwOk w h ps e ⟨At w, h, ps, [], .slice none 0 0, [], 0, 0⟩ :=
 ⟨hp, .inl ⟨rfl, rfl, rfl⟩, rfl, hlc, listE_nil _ _, by
   have : cnt ps ≤ ps.length := List.countP_le_length
   have := hp.1
   simp only [List.length_nil]; omega⟩
theorem SwOk.learn {w : World} {h0 : H} {ps0 : List PayS} {e : Nat} {t : SwG} (k : SwOk w h0 ps0 e t) {F' : Addr → Value → Prop} (hF : More t.F F') (b i : Nat) : SwOk w h0 ps0 e ⟨F', t.h, t.ps, t.xs, t.v, t.E, b, i⟩ :=
 ⟨k.pays.mono hF, k.out.imp id fun h => h.mono (young_mono hF), k.len, k.lc, k.list, k.sum⟩
theorem SwOk.go {w : World} {h0 : H} {ps0 : List PayS} {e : Nat} {t : SwG} (k : SwOk w h0 ps0 e t) {F' : Addr → Value → Prop} (hF : More t.F F') {i : Int} {p : PayS} (hs : settles t.ps i = some p) {h' : H} (hlc : h'.pl ≤ h'.pc)
   (ho : (h'.pa = t.h.pa ∧ h'.pl = t.h.pl ∧ settleP t.ps i = t.ps) ∨ PaysIn (Young w F') h'.pa h'.pl (settleP t.ps i)) {v' : Value} {E' : List (Nat × Obj)} (hl : ListE e 1 v' (t.xs.length + 1) (t.xs.map I ++ [I i]) E') (b d : Nat) :
   SwOk w h0 ps0 e ⟨F', h', settleP t.ps i, t.xs ++ [i], v', E', b, d⟩ := by
 have hlen : h'.pl = t.h.pl := by
   rcases ho with ho | ho
   · exact ho.2.1
   · rw [← ho.1, settleP_len, k.pays.1]
 refine ⟨?_, ?_, by simp only; rw [hlen, k.len], hlc, by simpa using hl, ?_⟩
 · rcases ho with ⟨h1, h2, h3⟩ | ho
   · simp only; rw [h1, h2, h3]; exact k.pays.mono hF
   · exact ho.mono (more_young w F')
 · rcases ho with ⟨h1, h2, h3⟩ | ho
   · simp only; rw [h1, h2, h3]
     exact k.out.imp id fun h => h.mono (young_mono hF)
   · exact .inr ho
 · have := cnt_settle hs
   have := k.sum
   simp only [List.length_append, List.length_cons, List.length_nil]; omega
theorem sw_round {s t : QS} {bank idle idle' : Nat} (h4 : idle < 4) (hn : firstM t.c t.ps bank = none) (hd : drain bank t = drain bank s) (hi : (idle' = idle + 1 ∧ t.xs.length = s.xs.length) ∨ (idle' = 0 ∧ s.xs.length < t.xs.length)) :
   sweepFrom ((bank + 1) % 4) idle' t = sweepFrom bank idle s ∧ 5 * cnt t.ps + (4 - idle') < 5 * cnt s.ps + (4 - idle) ∧ idle' ≤ 4 := by
 rw [drain_end hn] at hd
 have hf := drain_facts bank s
 rw [← hd] at hf
 obtain ⟨_, h1, h2⟩ := hf
 rcases hi with ⟨rfl, h3⟩ | ⟨rfl, h3⟩
 · exact ⟨(sweep_idle h4 hd.symm h3).symm, by omega, by omega⟩
 · exact ⟨(sweep_busy h4 hd.symm (by omega)).symm, by omega, by omega⟩
theorem sw_drain {t : SwG} {bank i : Int} {r : List Int} {p : PayS} {h' : H} (hq : queueM t.ps bank = i :: r) (hpi : t.ps[i.toNat]? = some p) (hm : maySendM t.h bank p.dst p.amt = true) (hco : h'.core = settleC t.h.core t.ps i) : drain bank ⟨h'.core, settleP t.ps i, t.xs ++ [i]⟩ = drain bank t.q := by
 have : firstM t.q.c t.q.ps bank = some i := firstM_yes (c := t.h.core) hq hpi hm
 rw [drain_go this, hco]
 rfl
theorem rem4 (n : Nat) : ((n : Int) + 1).tmod 4 = (((n + 1) % 4 : Nat) : Int) := by
 rw [Int.tmod_eq_emod_of_nonneg (by omega)]; omega
def SweepF (h0 : H) (ps0 : List PayS) (s : QS) (F : Addr → Value → Prop) (v : Value) : Prop := ∃ v1 v2, v = .tuple #[v1, v2] ∧ HouseF h0 ps0 s.c s.ps F v1 ∧ IntsIn F v2 s.xs
theorem sweepF_mono (h0 : H) (ps0 : List PayS) (s : QS) : Mono (SweepF h0 ps0 s) := by
 rintro F F' v hm ⟨v1, v2, h1, h2, h3⟩
 exact ⟨v1, v2, h1, houseF_mono _ _ _ _ _ _ _ hm h2, h3.mono hm⟩
theorem SwOk.done {w w' : World} {h0 : H} {ps0 : List PayS} {e : Nat} {t : SwG} {L : List (Nat × Obj)} (k : SwOk w h0 ps0 e t) (hw : Has w t.F (t.E ++ L) w') : SweepF h0 ps0 t.q (Fresh w w') (.tuple #[.agg t.h.cells, t.v]) :=
 ⟨_, _, rfl, ⟨t.h, rfl, rfl, k.lc, k.out.imp id fun h => h.mono (young_fresh hw)⟩, ints_of_list k.list (own_fresh hw)⟩
end Go.Proofs.YtmkboljfbmlebacGreat
namespace Go.Proofs.YtmkboljfbmlebacGreat
open Go.RowKit
set_option linter.unusedSimpArgs false
set_option linter.unusedVariables false
set_option maxRecDepth 100000
attribute [local irreducible] cC sC nC rC qw
theorem gr_SweepHouse (h : H) (ps : List PayS) (w : World) (hp : PaysIn (At w) h.pa h.pl ps) (hb : h.pl * 48 ≤ 281474976710656) (hlc : h.pl ≤ h.pc) : GivesF Tryz.prog 37 [.agg h.cells] w (SweepF h ps (sweepM h.core ps)) := by
 refine givesF_of Tryz.func37 rfl Tryz.ntmps37 (by simp) (r_seq (by kernel_rfl) (s_box (v := .agg _) rfl (fun b1 => ?_)))
 refine s_alloc (z := .agg zeroH.cells) (by kernel_rfl) (fun b2 => ?_)
 refine s_val (v_assign (v := .slice _ _ _) rfl) (s_nil (r_seq (by kernel_rfl) (s_val (v_assign (v := .slice _ _ _) rfl) (s_nil (c_seq (r_seq (by kernel_rfl) (s_val (v_loadA (m := 42) (by kernel_rfl) rfl (.there .here) (H.size _)) (s_call (by kernel_rfl) (fun w hw => gr_IsHouse _ ps w (hp.at hw) hb hlc) (s_val (v_not rfl) (s_nil (c_condN rfl rfl (fun h10 => ?_) (fun h10 => ?_))))))))))))
 · refine r_seq (by kernel_rfl) (s_val (v_loadA (m := 42) (by kernel_rfl) rfl (.there .here) (H.size _)) (s_storeA (m := 42) (by kernel_rfl) rfl rfl .here (H.size _) (H.size _) (H.all1 _) (s_val (v_assign (v := .slice _ _ _) rfl) (s_nil (c_ret (n_ret (n_done2F (m := 42) rfl (by decide) (by decide) rfl (by kernel_rfl) .here (H.size _) (fun w hw => ?_))))))))
   have hg : goodB h.core ps = false := (isHouse_eq hp.1).symm.trans h10
   simp only [sweepM, hg, cond_false]
   exact ⟨_, _, rfl, ⟨h, rfl, rfl, hlc, .inl ⟨rfl, rfl, rfl⟩⟩, none, 0, rfl, .inl rfl⟩
 refine c_skip (n_then (r_seq (by kernel_rfl) (s_val (v_asI rfl) (s_nil (c_seq (r_seq (by kernel_rfl) (s_val (v_asI rfl) (s_nil (c_block (c_loop (σ := SwG) (fun (s : SwG) f => ∃ g, (SwOk w h ps 3 s ∧ s.bank < 4 ∧ s.idle ≤ 4 ∧ sweepFrom s.bank s.idle s.q = sweepFrom 0 0 ⟨h.core, ps, []⟩) ∧ f = (upd (upd (upd (upd (upd g 1 (.pointer (some ⟨b1, 0, none⟩))) 2 (.pointer (some ⟨b2, 0, none⟩))) 4 (s.v)) 5 (I (s.idle : Int))) 6 (I (s.bank : Int)))) (fun (s : SwG) => Has w s.F (s.E ++ [(b2, .cells zeroH.cells 43), (b1, .cells s.h.cells 43)])) (fun (s : SwG) => 5 * cnt s.ps + (4 - s.idle)) ⟨At w, h, ps, [], .slice none 0 0, [], 0, 0⟩ ⟨_, ⟨swOk_start hp hlc, Nat.zero_lt_succ _, Nat.zero_le _, rfl⟩, live5 rfl rfl rfl rfl rfl⟩ (fun w hw => hw) ?_))))))))))
 rintro s _ ⟨g, ⟨hok0, hb4, hi4, hsw⟩, rfl⟩
 refine c_seq (r_seq (by kernel_rfl) (s_val (v_mvI rfl) (s_val (v_lsI rfl rfl) (s_nil (c_condR rfl rfl (fun h13 => ?_) (fun h13 => ?_))))))
 · have h4 : ¬ s.idle < 4 := by have := of_decide_eq_false h13; omega
   refine c_exit (n_exit (n_exit (n_bhere (n_then (r_seq (by kernel_rfl) (s_val (v_loadA (m := 42) (by kernel_rfl) rfl (.app (.there .here)) (H.size _)) (s_val (v_move (v := _) rfl) (s_storeA (m := 42) (by kernel_rfl) rfl rfl (.app .here) (H.size _) (H.size _) (H.all1 _) (s_val (v_assign (v := _) rfl) (s_nil (c_ret (n_done2F (m := 42) rfl (by decide) (by decide) rfl (by kernel_rfl) (.app .here) (H.size _) (fun w hw => ?_)))))))))))))
   have hg : goodB h.core ps = true := (isHouse_eq hp.1).symm.trans h10
   simp only [sweepM, hg, cond_true]
   rw [← hsw, sweep_end h4]
   exact hok0.done hw
 have h4 : s.idle < 4 := by have := of_decide_eq_true h13; omega
 refine c_skip (n_then (c_seq (c_block (r_seq (by kernel_rfl) (s_val (v_mvI rfl) (s_val (v_add rfl rfl (by omega)) (s_val (v_asI rfl) (s_nil (c_block (c_loop (σ := SwG) (fun (t : SwG) f => ∃ g, (SwOk w h ps 3 t ∧ drain s.bank t.q = drain s.bank s.q ∧ ((t.idle = s.idle + 1 ∧ t.xs.length = s.xs.length) ∨ (t.idle = 0 ∧ s.xs.length < t.xs.length))) ∧ f = (upd (upd (upd (upd (upd g 1 (.pointer (some ⟨b1, 0, none⟩))) 2 (.pointer (some ⟨b2, 0, none⟩))) 4 (t.v)) 5 (I (t.idle : Int))) 6 (I (s.bank : Int)))) (fun (t : SwG) => Has w t.F (t.E ++ [(b2, .cells zeroH.cells 43), (b1, .cells t.h.cells 43)])) (fun (t : SwG) => cnt t.ps) ⟨s.F, s.h, s.ps, s.xs, s.v, s.E, s.bank, s.idle + 1⟩ ⟨_, ⟨hok0.learn (fun _ _ h => h) _ _, rfl, .inl ⟨rfl, rfl⟩⟩, live5 rfl rfl rfl rfl rfl⟩ (fun w hw => hw) ?_))))))))))
 rintro t _ ⟨g, ⟨hok, hdr, hid⟩, rfl⟩
 refine c_block ?_
 have hlct := hok.lc
 have hlnt := hok.len
 refine r_seq (by kernel_rfl) (s_val (v_loadA (m := 42) (by kernel_rfl) rfl (.app (.there .here)) (H.size _)) (s_val (v_mvI rfl) (s_callF (by kernel_rfl) (fun w hw => gr_QueueOf t.h t.ps s.bank w (hok.pays.at hw) (by omega) hlct) (fun F21 v21 E21 hF21 hK21 hR21 => ?_))))
 have hpy := hok.pays.mono hF21
 obtain ⟨a21, c21, rfl, hq21⟩ := ints_of_list hR21 hK21
 refine s_val (v_assign (v := .slice _ _ _) rfl) (s_nil (c_seq (d_seq (by kernel_rfl) (by kernel_rfl) (fun w hw => hw.drew) (by kernel_rfl) (q_val (v_move (v := .slice _ _ _) rfl) (q_val (v_lenS (T := 29) (m := 1) (by kernel_rfl) rfl rfl) (q_val (v_eql (k := .i64) rfl rfl) (q_val (v_mvB rfl) (q_split (s := 25) rfl (fun h25 => ?_) (fun h25 => ?_)))))))))
 · refine q_pass rfl rfl h25 (q_pass rfl rfl h25 (q_pass rfl rfl h25 (q_pass rfl rfl h25 (q_pass rfl rfl h25 (q_pass rfl rfl h25 (q_pass rfl rfl h25 (q_pass rfl rfl h25 (q_pass rfl rfl h25 (q_pass rfl rfl h25 (q_pass rfl rfl h25 (q_pass rfl rfl h25 (q_pass rfl rfl h25 (q_pass rfl rfl h25 (q_pass rfl rfl h25 (q_pass rfl rfl h25 (q_pass rfl rfl h25 (q_pass rfl rfl h25 (q_pass rfl rfl h25 (q_pass rfl rfl h25 ?_)))))))))))))))))))
   refine q_val (v_pickT (v := .bool _) rfl h25 rfl) (q_nil (c_condTh rfl rfl rfl (c_exit (n_exit (n_bpast rfl (n_exit (n_bhere (n_bnormal (n_then (r_list (by kernel_rfl) (s_val (v_mvI rfl) (s_val (v_add rfl rfl (by omega)) (s_val (v_rem (c := (((s.bank + 1) % 4 : Nat) : Int)) rfl rfl (by decide) (rem4 _)) (s_val (v_asI rfl) (s_end ?_)))))))))))))))
   refine n_round (s := s) ⟨F21, t.h, t.ps, t.xs, t.v, t.E, (s.bank + 1) % 4, t.idle⟩ ⟨_, (by
     obtain ⟨e1, e2, e3⟩ := sw_round (s := s.q) (t := t.q) h4 (firstM_nil (show queueM t.ps s.bank = [] from List.eq_nil_of_length_eq_zero (by have := of_decide_eq_true h25; omega))) hdr hid
     exact ⟨hok.learn hF21 _ _, Nat.mod_lt _ (by decide), e3, e1.trans hsw⟩), live5 rfl rfl rfl rfl rfl⟩ (fun _ hw => hw) (sw_round (s := s.q) (t := t.q) h4 (firstM_nil (show queueM t.ps s.bank = [] from List.eq_nil_of_length_eq_zero (by have := of_decide_eq_true h25; omega))) hdr hid).2.1
 have hne := of_decide_eq_false h25
 obtain ⟨i, r, hq⟩ : ∃ i r, queueM t.ps s.bank = i :: r := by
   cases hq : queueM t.ps s.bank with
   | nil => rw [hq] at hne; exact absurd rfl hne
   | cons i r => exact ⟨i, r, rfl⟩
 obtain ⟨bq, oq, rfl, hel⟩ := hq21.resolve_left (by rw [hq]; simp)
 have hi0 := hel 0 i (by rw [hq]; rfl)
 have hlen : (0 : Int) < ((queueM t.ps s.bank).length : Int) := by rw [hq]; simp only [List.length_cons]; omega
 obtain ⟨p, hst, hpi, hsta, hsrc⟩ := (queueM_mine (show i ∈ queueM t.ps s.bank by rw [hq]; simp)).settles
 have hi1 := (settles_spec hst).1
 have hilt : i.toNat < t.h.pl := by have := (List.getElem?_eq_some_iff.1 hpi).1; have := hok.pays.1; omega
 obtain ⟨bp, op, hpa, hc⟩ := hpy.some hilt
 refine q_want rfl rfl h25 (q_val (v_loadA (m := 42) (by kernel_rfl) rfl (.app (.there .here)) (H.size _)) (q_want rfl rfl h25 (q_val (v_mvI rfl) (q_want rfl rfl h25 (q_val (v_fd 40 (by kernel_rfl) rfl) (q_want rfl rfl h25 (q_val (v_load1 (v := .slice _ _ _) (by kernel_rfl) rfl (.app (.there .here)) (H.at_pays _)) (q_want rfl rfl h25 (q_val (v_move (v := .slice _ _ _) rfl) (q_want rfl rfl h25 (q_val (v_idxS (size := 1) (k := .i64) (by kernel_rfl) rfl rfl ⟨by decide, hlen⟩) (q_want rfl rfl h25 (q_val (v_load1o (v := I i) (by kernel_rfl) rfl hi0) (q_want rfl rfl h25 (q_val (v_idxS (size := 6) (k := .i64) (by kernel_rfl) (congrArg (fun a => Value.slice a t.h.pl t.h.pc) hpa) rfl ⟨by omega, by omega⟩) (q_want rfl rfl h25 (q_val (v_fd 1 (by kernel_rfl) rfl) (q_want rfl rfl h25 (q_val (v_load1o (by kernel_rfl) rfl (hc _ p hpi 1 _ rfl)) ?_)))))))))))))))))))
 refine q_want rfl rfl h25 (q_val (v_fd 40 (by kernel_rfl) rfl) (q_want rfl rfl h25 (q_val (v_load1 (v := .slice _ _ _) (by kernel_rfl) rfl (.app (.there .here)) (H.at_pays _)) (q_want rfl rfl h25 (q_val (v_move (v := .slice _ _ _) rfl) (q_want rfl rfl h25 (q_val (v_idxS (size := 1) (k := .i64) (by kernel_rfl) rfl rfl ⟨by decide, hlen⟩) (q_want rfl rfl h25 (q_val (v_load1o (v := I i) (by kernel_rfl) rfl hi0) (q_want rfl rfl h25 (q_val (v_idxS (size := 6) (k := .i64) (by kernel_rfl) (congrArg (fun a => Value.slice a t.h.pl t.h.pc) hpa) rfl ⟨by omega, by omega⟩) (q_want rfl rfl h25 (q_val (v_fd 2 (by kernel_rfl) rfl) (q_want rfl rfl h25 (q_val (v_load1o (by kernel_rfl) rfl (hc _ p hpi 2 _ rfl)) (q_want rfl rfl h25 (q_call (by kernel_rfl) (fun w hw => gr_MaySend _ _ _ _ w) (q_want rfl rfl h25 (q_val (v_not rfl) ?_)))))))))))))))))))
 refine q_val (v_pickF (v := .bool _) rfl h25 rfl) (q_nil (c_condN rfl rfl (fun h46 => ?_) (fun h46 => ?_)))
 · refine c_exit (n_exit (n_bpast rfl (n_exit (n_bhere (n_bnormal (n_then (r_list (by kernel_rfl) (s_val (v_mvI rfl) (s_val (v_add rfl rfl (by omega)) (s_val (v_rem (c := (((s.bank + 1) % 4 : Nat) : Int)) rfl rfl (by decide) (rem4 _)) (s_val (v_asI rfl) (s_end ?_))))))))))))
   refine n_round (s := s) ⟨F21, t.h, t.ps, t.xs, t.v, t.E, (s.bank + 1) % 4, t.idle⟩ ⟨_, (by
     obtain ⟨e1, e2, e3⟩ := sw_round (s := s.q) (t := t.q) h4 (firstM_no hq hpi h46) hdr hid
     exact ⟨hok.learn hF21 _ _, Nat.mod_lt _ (by decide), e3, e1.trans hsw⟩), live5 rfl rfl rfl rfl rfl⟩ (fun _ hw => hw) (sw_round (s := s.q) (t := t.q) h4 (firstM_no hq hpi h46) hdr hid).2.1
 refine c_skip (n_then (t_seq (k := 4) (by kernel_rfl) (by kernel_rfl) (fun w hw => hw.drew) (by kernel_rfl) (q_val (v_loadA (m := 42) (by kernel_rfl) rfl (.app (.there .here)) (H.size _)) (q_val (v_move (v := .slice _ _ _) rfl) (q_val (v_idxS (size := 1) (k := .i64) (by kernel_rfl) rfl rfl ⟨by decide, hlen⟩) (q_val (v_load1o (v := I i) (by kernel_rfl) rfl hi0) (q_tail (s_callG (by kernel_rfl) (houseF_mono _ _ _ _) (fun w hw => gr_SettlePay t.h t.ps i w (hpy.at hw) (by omega) hlct) (fun F51 v51 hF51 hR51 => ?_)))))))))
 obtain ⟨h51, rfl, hco51, hlc51, hpo51⟩ := hR51
 have hcs := cnt_settle hst
 have hsum := hok.sum
 refine s_storeA (m := 42) (by kernel_rfl) rfl rfl (.app (.there .here)) (H.size _) (H.size _) (H.all1 _) (s_nil (r_seq (by kernel_rfl) (s_val (v_move (v := _) rfl) (s_val (v_move (v := .slice _ _ _) rfl) (s_val (v_idxS (size := 1) (k := .i64) (by kernel_rfl) rfl rfl ⟨by decide, hlen⟩) (s_val (v_load1o (v := I i) (by kernel_rfl) rfl (hF51 _ _ hi0)) (s_build1 (v := .int .i64 _) (e := 3) (m := 1) (by_ := 8) (by kernel_rfl) rfl rfl rfl (fill_scalar rfl) (fun b56 => ?_))))))))
 refine s_push (e := 3) (m := 1) (by_ := 8) (by kernel_rfl) rfl rfl rfl rfl rfl hok.list rfl (all_scalar rfl rfl) (by omega) (fun v57 E57 hE57 => ?_)
 refine s_val (v_assign (v := _) rfl) (s_nil (r_list (by kernel_rfl) (s_val (v_asI rfl) (s_end (n_bnormal ?_)))))
 refine n_round (s := t) ⟨F51, h51, settleP t.ps i, t.xs ++ [i], v57, E57, 0, 0⟩ ⟨_, ⟨hok.go (fun a v h => hF51 a v (hF21 a v h)) hst hlc51 hpo51 hE57 _ _, (sw_drain hq hpi h46 hco51).trans hdr, .inr ⟨rfl, by
     simp only [List.length_append, List.length_cons, List.length_nil]; omega⟩⟩, live5 rfl rfl rfl rfl rfl⟩ (fun _ hw => hw) (by dsimp only; omega)
end Go.Proofs.YtmkboljfbmlebacGreat
namespace Go.Proofs.YtmkboljfbmlebacGreat
open Go.RowKit
set_option linter.unusedSimpArgs false
set_option linter.unusedVariables false
def dstsOf (l : List Oper) : List Nat := l.filterMap (·.dst)
def flowB (md : Region.Mode) (l : List Oper) : Bool :=
 (dstsOf l).Nodup && Region.noSelect l.toArray && l.zipIdx.all fun (o, i) => (o.looksAt l.toArray).all (fun t => l.zipIdx.all fun (u, j) => !(u.dst == some t) || o.after.any (fun e => Region.binds md e && e.on == j)) && o.after.all (fun e => !Region.binds md e || decide (e.on < i))
section
variable {P : Program} {n : Nat} {C : World → Prop} {f : Nat → Value} {l : List Oper} {Ψ : Nat → Value → World → Prop} {Q : Exit → (Nat → Value) → World → Prop}
def Ob (P : Program) (C : World → Prop) (f : Nat → Value) (l : List Oper) (Ψ : Nat → Value → World → Prop) (o : Oper) : Prop :=
 ∀ g w, C w → (∀ t ∈ o.looksAt l.toArray, (t ∈ dstsOf l → Ψ t (g t) w) ∧ (t ∉ dstsOf l → g t = f t)) →
   if Region.wanted o (yf l.toArray g) then opk P o g w (fun g' w' => ∃ v, g' = updo g o.dst v ∧ Bel w.heap.size w w' ∧ ∀ d, o.dst = some d → Ψ d v w') else ∀ d, o.dst = some d → Ψ d undef w
def Obs (P : Program) (C : World → Prop) (f : Nat → Value) (l : List Oper) (Ψ : Nat → Value → World → Prop) : List Oper → Prop
 | [] => True
 | o :: r => Ob P C f l Ψ o ∧ Obs P C f l Ψ r
theorem Obs.mem {r : List Oper} (h : Obs P C f l Ψ r) : ∀ o ∈ r, Ob P C f l Ψ o := by
 induction r with
 | nil => intro o ho; cases ho
 | cons x r ih =>
   intro o ho
   rcases List.mem_cons.1 ho with e | ho
   · rw [e]; exact h.1
   · exact ih h.2 o ho
def unset (b : Bool) : Bool := !b
structure FlowInv (C : World → Prop) (f : Nat → Value) (l : List Oper) (Ψ : Nat → Value → World → Prop) (s : Array Bool) (g : Nat → Value) (w : World) : Prop where
 size : s.size = l.length
 cls : C w
 done : ∀ (i : Nat) (o : Oper) (d : Nat), l[i]? = some o → s[i]? = some true → o.dst = some d → Ψ d (g d) w
 out : ∀ t, t ∉ dstsOf l → g t = f t
theorem dst_unique : ∀ {l : List Oper}, (dstsOf l).Nodup → ∀ {i j : Nat} {o u : Oper} {d : Nat}, l[i]? = some o → l[j]? = some u → o.dst = some d → u.dst = some d → i = j
 | [], _, i, j, o, u, d, h, _, _, _ => by simp at h
 | x :: r, hn, i, j, o, u, d, hi, hj, ho, hu => by
   have hmem : ∀ {k : Nat} {y : Oper}, r[k]? = some y → y.dst = some d → d ∈ dstsOf r := fun hk hy => List.mem_filterMap.2 ⟨_, List.mem_of_getElem? hk, hy⟩
   have hr : (dstsOf r).Nodup := by
     unfold dstsOf at hn
     cases hx : x.dst with
     | none => rw [List.filterMap_cons_none hx] at hn; exact hn
     | some e => rw [List.filterMap_cons_some hx] at hn; exact (List.nodup_cons.1 hn).2
   have hx0 : x.dst = some d → d ∉ dstsOf r := fun hx => by
     unfold dstsOf at hn
     rw [List.filterMap_cons_some hx] at hn
     exact (List.nodup_cons.1 hn).1
   cases i with
   | zero =>
     cases j with
     | zero => rfl
     | succ j =>
       simp at hi hj; subst hi
       exact absurd (hmem hj hu) (hx0 ho)
   | succ i =>
     cases j with
     | zero =>
       simp at hi hj; subst hj
       exact absurd (hmem hi ho) (hx0 hu)
     | succ j =>
       simp at hi hj
       rw [dst_unique hr hi hj ho hu]
theorem d_flow {id : Nat} (hm : P.follows .mixedOrders = true) (hB : opsB n l.toArray = true) (hF : flowB .any l = true) (hC : ∀ w w', C w → Bel w.heap.size w w' → C w')
   (hΨ : ∀ d v w w', C w → Bel w.heap.size w w' → Ψ d v w → Ψ d v w') (h : Obs P C f l Ψ l)
   (k : ∀ g w, C w → (∀ d ∈ dstsOf l, Ψ d (g d) w) → (∀ t, t ∉ dstsOf l → g t = f t) → Q .normal g w) : cC P n (.region id l.toArray true) Q f C := by
 simp only [flowB, Bool.and_eq_true, decide_eq_true_eq, List.all_eq_true] at hF
 obtain ⟨⟨hnd, hsel⟩, hall⟩ := hF
 have hop : ∀ (i : Nat) (o : Oper), l[i]? = some o → (∀ t ∈ o.looksAt l.toArray, ∀ (j : Nat) (u : Oper), l[j]? = some u → u.dst = some t → ∃ e ∈ o.after, Region.binds .any e = true ∧ e.on = j) ∧ (∀ e ∈ o.after, Region.binds .any e = true → e.on < i) := by
   intro i o hi
   have := hall (o, i) (List.mem_zipIdx_iff_getElem?.2 hi)
   simp only [Bool.and_eq_true, List.all_eq_true] at this
   obtain ⟨h1, h2⟩ := this
   refine ⟨fun t ht j u hj hu => ?_, fun e he hb => ?_⟩
   · have := h1 t ht (u, j) (List.mem_zipIdx_iff_getElem?.2 hj)
     simp [hu] at this
     obtain ⟨i', hi', e1, e2⟩ := this
     exact ⟨_, Array.getElem_mem hi', e1, e2⟩
   · have := Array.all_eq_true_iff_forall_mem.1 h2 e he
     simpa [hb] using this
 have hB' : ∀ o ∈ l, operB n l.toArray o = true := by simpa [opsB] using hB
 have main : ∀ (fuel : Nat) (s : Array Bool) (g : Nat → Value) (w : World), FlowInv C f l Ψ s g w → s.toList.countP unset ≤ fuel → wpAny P .any l.toArray (fun e a w => ∃ f, a = Fa n f ∧ Q e f w) fuel s (Fa n g) w := by
   have all : ∀ (s : Array Bool) (g : Nat → Value) (w : World), FlowInv C f l Ψ s g w → Region.ready .any l.toArray s = [] → Q .normal g w := by
     intro s g w inv hr
     have hls : ∀ i, i < l.length → s[i]? = some true := by
       intro i
       induction i using Nat.strongRecOn with
       | _ i ih =>
         intro hi
         have his : i < s.size := by rw [inv.size]; exact hi
         cases hv : s[i] with
         | true => simp [his, hv]
         | false =>
           exfalso
           have : i ∈ Region.ready .any l.toArray s := mem_ready.2 ⟨by simp [Array.getD, his, hv], l[i], by simp [hi], fun e he hb => by
             have hlt := (hop i l[i] (by simp [hi])).2 e he hb
             have := ih e.on hlt (by omega)
             have hsz := (Array.getElem?_eq_some_iff.1 this)
             obtain ⟨h1, h2⟩ := hsz
             simp [Array.getD, h1, h2]⟩
           rw [hr] at this
           cases this
     refine k g w inv.cls (fun d hd => ?_) inv.out
     obtain ⟨o, ho, hd'⟩ := List.mem_filterMap.1 hd
     obtain ⟨i, hi, he⟩ := List.getElem_of_mem ho
     exact inv.done i o d (by simp [hi, he]) (hls i hi) hd'
   intro fuel
   induction fuel with
   | zero =>
     intro s g w inv hc
     have hr : Region.ready .any l.toArray s = [] := by
       cases hr : Region.ready .any l.toArray s with
       | nil => rfl
       | cons i r =>
         exfalso
         have hi := (mem_ready.1 (show i ∈ Region.ready .any l.toArray s by rw [hr]; simp)).1
         have : false ∈ s.toList := by
           by_cases hs : i < s.size
           · simp [Array.getD, hs] at hi
             rw [← hi]; simp
           · simp [Array.getD, hs] at hi
         have := List.countP_pos_iff (p := unset).2 ⟨false, this, rfl⟩
         omega
     exact ⟨hr, g, rfl, all s g w inv hr⟩
   | succ fuel ih =>
     intro s g w inv hc
     refine ⟨fun hr => ⟨g, rfl, all s g w inv hr⟩, fun i hi => ?_⟩
     obtain ⟨hun, o, ho, hed⟩ := mem_ready.1 hi
     have hol : l[i]? = some o := by simpa using ho
     have hom : o ∈ l := List.mem_of_getElem? hol
     have his : i < s.size := by
       rcases Nat.lt_or_ge i s.size with h | h
       · exact h
       · have hn : ¬ i < s.size := by omega
         simp [Array.getD, hn] at hun
     have hfalse : s[i] = false := by simpa [Array.getD, his] using hun
     have hcount : (s.setIfInBounds i true).toList.countP unset ≤ fuel := by
       have e1 : unset (s.toList[i]'(by simpa using his)) = true := by simp [unset, hfalse]
       have h0 : 0 < s.toList.countP unset := List.countP_pos_iff.2 ⟨s.toList[i]'(by simpa using his), List.getElem_mem _, e1⟩
       rw [Array.toList_setIfInBounds, List.countP_set (by simpa using his), if_pos e1, if_neg (by simp [unset])]
       omega
     have hob := h.mem o hom g w inv.cls (fun t ht => ⟨fun htd => by
       obtain ⟨u, hu, hut⟩ := List.mem_filterMap.1 htd
       obtain ⟨j, hj, he⟩ := List.getElem_of_mem hu
       have hj' : l[j]? = some u := by simp [hj, he]
       obtain ⟨e, he1, he2, he3⟩ := (hop i o hol).1 t ht j u hj' hut
       have := hed e he1 he2
       rw [he3] at this
       refine inv.done j u t hj' ?_ hut
       have hjs : j < s.size := by rw [inv.size]; exact hj
       simp [Array.getD, hjs] at this
       simp [hjs, this], inv.out t⟩)
     have next : ∀ v w', Bel w.heap.size w w' → (∀ d, o.dst = some d → Ψ d v w') → FlowInv C f l Ψ (s.setIfInBounds i true) (updo g o.dst v) w' := by
       intro v w' hbel hv
       refine ⟨by simp [inv.size], hC w w' inv.cls hbel, fun j u d hj hs hu => ?_, fun t ht => ?_⟩
       · by_cases hji : j = i
         · subst hji
           rw [hol] at hj
           simp at hj; subst hj
           rw [hu]
           simp only [updo, upd_same]
           exact hv d hu
         · have hs' : s[j]? = some true := by rw [Array.getElem?_setIfInBounds_ne (Ne.symm hji)] at hs; exact hs
           have hne : o.dst ≠ some d := fun e => hji (dst_unique hnd hj hol hu e)
           have := hΨ d _ w w' inv.cls hbel (inv.done j u d hj hs' hu)
           cases hod : o.dst with
           | none => exact this
           | some d' =>
             simp only [updo]
             rw [upd_other g v (fun e => hne (by rw [hod, e]))]
             exact this
       · cases hod : o.dst with
         | none => exact inv.out t ht
         | some d' =>
           simp only [updo]
           rw [upd_other g v (fun e => ht (List.mem_filterMap.2 ⟨o, hom, by rw [hod, e]⟩))]
           exact inv.out t ht
     unfold wpOp
     simp only [ho]
     rw [Fa_wanted (hB' o hom)]
     split
     · rename_i hw
       rw [if_pos hw] at hob
       refine Or.inl ?_
       unfold Oper.wp
       rw [Fa_exec (hB' o hom)]
       unfold opk at hob
       generalize (execOp (ev g) o).run P w = r at hob
       cases r with
       | ok nx w' =>
         cases nx <;> simp only at hob <;> simp only [Oper.upon]
         case value v =>
           obtain ⟨v', e, hbel, hv⟩ := hob
           rw [Fa_put, e]
           exact ih _ _ _ (next v' w' hbel hv) hcount
         case skip =>
           obtain ⟨v', e, hbel, hv⟩ := hob
           rw [Fa_put, e]
           exact ih _ _ _ (next v' w' hbel hv) hcount
         case enter fn args =>
           refine Calls.mono hob fun e w'' ⟨v, he, v', e', hbel, hv⟩ => ?_
           subst he
           show wpAny P .any l.toArray _ fuel _ ((Fa n g).put o.dst v) w''
           rw [Fa_put, e']
           exact ih _ _ _ (next v' w'' hbel hv) hcount
       | halt x w' => exact hob.elim
     · rename_i hw
       rw [if_neg hw] at hob
       rw [Fa_put]
       exact ih _ _ _ (next undef w (Bel.refl _ _) hob) hcount
 intro w hw
 refine wp_region_any hm ?_
 refine main _ _ f w.drew ⟨by simp, hC w _ hw ((Bel.refl _ _).drew), fun i o d hi hs hd => ?_, fun _ _ => rfl⟩ ?_
 · rw [Array.getElem?_replicate] at hs
   split at hs <;> simp at hs
 · have := List.countP_le_length (p := unset) (l := (Array.replicate l.toArray.size false).toList)
   simpa using this
end
end Go.Proofs.YtmkboljfbmlebacGreat
namespace Go.Proofs.YtmkboljfbmlebacGreat
open Go.RowKit
set_option linter.unusedSimpArgs false
set_option linter.unusedVariables false
section
variable {P : Program} {f : Nat → Value} {C : World → Prop} {dst : Option Nat} {ty : TypeId} {pos : String} {af : Array Edge} {gd : Option (Nat × Bool)}
theorem v_build {T : TypeId} {parts : List (Nat × Operand)} {vs : List (Nat × Value)} {cs : Array Value} (hv : parts.map (fun p => (p.1, ev f p.2)) = vs) (h : P.built T vs = some cs) : Val P f C ⟨dst, .build T parts.toArray, ty, pos, af, gd⟩ (.agg cs) :=
 ⟨fun w _ => by
   have e : (parts.toArray.map fun p => (p.1, ev f p.2)) = vs.toArray := by simp [hv]
   have hr := run_build (P := P) w T vs.toArray cs (by simpa using h)
   simp only [execOp]
   rw [e]
   simp [hr]⟩
theorem v_extract {x : Operand} {vs : Array Value} {i : Nat} {v : Value} (hx : ev f x = .tuple vs) (hi : vs[i]? = some v) : Val P f C ⟨dst, .extract x i, ty, pos, af, gd⟩ v :=
 ⟨fun w _ => by simp [execOp, hx, Instr.extract, hi]⟩
end
def IntsAt (F : Addr → Value → Prop) (a : Option Addr) (xs : List Int) : Prop := xs = [] ∨ ∃ b o, a = some ⟨b, o, none⟩ ∧ ∀ (j : Nat) (x : Int), xs[j]? = some x → F ⟨b, o + j, none⟩ (I x)
theorem IntsIn.at {F : Addr → Value → Prop} {v : Value} {xs : List Int} (h : IntsIn F v xs) : ∃ a c, v = .slice a xs.length c ∧ IntsAt F a xs := h
theorem IntsAt.mono {F F' : Addr → Value → Prop} {a : Option Addr} {xs : List Int} (h : IntsAt F a xs) (hm : More F F') : IntsAt F' a xs := by
 rcases h with h | ⟨b, o, h1, h2⟩
 · exact .inl h
 · exact .inr ⟨b, o, h1, fun j x hj => hm _ _ (h2 j x hj)⟩
theorem IntsAt.get {F : Addr → Value → Prop} {a : Option Addr} {xs : List Int} (h : IntsAt F a xs) {j : Nat} (hj : j < xs.length) : ∃ b o x, a = some ⟨b, o, none⟩ ∧ xs[j]? = some x ∧ F ⟨b, o + j, none⟩ (I x) := by
 rcases h with rfl | ⟨b, o, h1, h2⟩
 · simp at hj
 · exact ⟨b, o, xs[j], h1, by simp [hj], h2 j _ (by simp [hj])⟩
theorem IntsAt.at {w0 w : World} {F : Addr → Value → Prop} {L : List (Nat × Obj)} {a : Option Addr} {xs : List Int} (h : IntsAt F a xs) (hw : Has w0 F L w) : IntsAt (At w) a xs := h.mono hw.at
def repC (c n : Int) (v : Value) : Array Value := #[I c, I n, v]
def sameRB (c1 n1 : Int) (xs : List Int) (c2 n2 : Int) (ys : List Int) : Bool := decide (c1 = c2) && decide (n1 = n2) && decide (xs = ys)
theorem same_take {xs ys : List Int} {j : Nat} {x y : Int} (h : xs.take j = ys.take j) (hx : xs[j]? = some x) (hy : ys[j]? = some y) (he : x = y) : xs.take (j + 1) = ys.take (j + 1) := by
 rw [List.take_add_one, List.take_add_one, h, hx, hy, he]
theorem ints_all {xs ys : List Int} {j : Nat} (hl : (xs.length : Int) = ys.length) (h : xs.take j = ys.take j) (hj : ¬ (j : Int) < xs.length) : xs = ys := by
 rw [List.take_of_length_le (by omega), List.take_of_length_le (by omega)] at h; exact h
theorem ints_bad {xs ys : List Int} {j : Nat} {x y : Int} (hx : xs[j]? = some x) (hy : ys[j]? = some y) (he : ¬ x = y) : ¬ xs = ys := by
 rintro rfl; rw [hx] at hy; simp at hy; exact he hy
theorem ints_len {xs ys : List Int} (hl : ¬ (xs.length : Int) = ys.length) : ¬ xs = ys := by rintro rfl; exact hl rfl
end Go.Proofs.YtmkboljfbmlebacGreat
namespace Go.Proofs.YtmkboljfbmlebacGreat
open Go.RowKit
set_option linter.unusedSimpArgs false
set_option linter.unusedVariables false
set_option maxRecDepth 100000
attribute [local irreducible] cC sC nC rC qw
theorem gr_SameReply (c1 n1 c2 n2 : Int) (a1 a2 : Option Addr) (p1 p2 : Nat) (xs ys : List Int) (w : World) (hx : IntsAt (At w) a1 xs) (hy : IntsAt (At w) a2 ys) (hb : xs.length ≤ 9223372036854775807) : Gives Tryz.prog 7 [.agg (repC c1 n1 (.slice a1 xs.length p1)), .agg (repC c2 n2 (.slice a2 ys.length p2))] w (.bool (sameRB c1 n1 xs c2 n2 ys)) := by
 refine gives_of Tryz.func7 rfl Tryz.ntmps7 (by simp) (r_seq (by kernel_rfl) (s_box (v := .agg _) rfl (fun b2 => ?_)))
 refine s_box (v := .agg _) rfl (fun b3 => ?_)
 refine s_val (v_asB rfl) (s_nil (c_seq (r_seq (by kernel_rfl) (s_val (v_fd 0 (by kernel_rfl) rfl) (s_val (v_ldI (by kernel_rfl) rfl (.there .here) rfl) (s_val (v_fd 0 (by kernel_rfl) rfl) (s_val (v_ldI (by kernel_rfl) rfl .here rfl) (s_val (v_neq (k := .i64) rfl rfl) (s_val (v_mvB rfl) (s_splitN (s := 11) rfl (fun h11 => ?_) (fun h11 => ?_)))))))))))
 · refine s_pass rfl rfl (congrArg not h11) (s_pass rfl rfl (congrArg not h11) (s_pass rfl rfl (congrArg not h11) (s_pass rfl rfl (congrArg not h11) (s_pass rfl rfl (congrArg not h11) (s_val (v_pickT (v := .bool _) rfl (congrArg not h11) rfl) (s_val (v_mvB rfl) (s_pass (g := true) rfl rfl rfl (s_pass (g := true) rfl rfl rfl (s_pass (g := true) rfl rfl rfl (s_pass (g := true) rfl rfl rfl (s_pass (g := true) rfl rfl rfl (s_pass (g := true) rfl rfl rfl (s_pass (g := true) rfl rfl rfl (s_val (v_pickT (v := .bool _) rfl rfl rfl) (s_nil (c_condTh rfl rfl rfl (r_seq (by kernel_rfl) (s_val (v_asB rfl) (s_nil ?_)))))))))))))))))))
   refine c_ret (n_ret (n_dnB rfl (by decide) rfl ?_))
   simp only [sameRB, *, bls, cond_true, cond_false, if_true, if_false, Bool.false_eq_true, decide_true, decide_false]
 refine s_want rfl rfl (congrArg not h11) (s_val (v_fd 1 (by kernel_rfl) rfl) (s_want rfl rfl (congrArg not h11) (s_val (v_ldI (by kernel_rfl) rfl (.there .here) rfl) (s_want rfl rfl (congrArg not h11) (s_val (v_fd 1 (by kernel_rfl) rfl) (s_want rfl rfl (congrArg not h11) (s_val (v_ldI (by kernel_rfl) rfl .here rfl) (s_want rfl rfl (congrArg not h11) (s_val (v_neq (k := .i64) rfl rfl) (s_val (v_pickF (v := .bool _) rfl (congrArg not h11) rfl) (s_val (v_mvB rfl) (s_splitN (s := 18) rfl (fun h18 => ?_) (fun h18 => ?_)))))))))))))
 · refine s_pass rfl rfl (congrArg not h18) (s_pass rfl rfl (congrArg not h18) (s_pass rfl rfl (congrArg not h18) (s_pass rfl rfl (congrArg not h18) (s_pass rfl rfl (congrArg not h18) (s_pass rfl rfl (congrArg not h18) (s_pass rfl rfl (congrArg not h18) (s_val (v_pickT (v := .bool _) rfl (congrArg not h18) rfl) (s_nil (c_condTh rfl rfl rfl (r_seq (by kernel_rfl) (s_val (v_asB rfl) (s_nil (c_ret (n_ret (n_dnB rfl (by decide) rfl ?_)))))))))))))))
   simp only [sameRB, *, bls, cond_true, cond_false, if_true, if_false, Bool.false_eq_true, decide_true, decide_false]
 refine s_want rfl rfl (congrArg not h18) (s_val (v_fd 2 (by kernel_rfl) rfl) (s_want rfl rfl (congrArg not h18) (s_val (v_load1 (v := .slice _ _ _) (by kernel_rfl) rfl (.there .here) rfl) (s_want rfl rfl (congrArg not h18) (s_val (v_lenS (T := 29) (m := 1) (by kernel_rfl) rfl rfl) (s_want rfl rfl (congrArg not h18) (s_val (v_fd 2 (by kernel_rfl) rfl) (s_want rfl rfl (congrArg not h18) (s_val (v_load1 (v := .slice _ _ _) (by kernel_rfl) rfl .here rfl) (s_want rfl rfl (congrArg not h18) (s_val (v_lenS (T := 29) (m := 1) (by kernel_rfl) rfl rfl) (s_want rfl rfl (congrArg not h18) (s_val (v_neq (k := .i64) rfl rfl) (s_val (v_pickF (v := .bool _) rfl (congrArg not h18) rfl) (s_nil (c_condN rfl rfl (fun h26 => ?_) (fun h26 => ?_)))))))))))))))))
 · refine r_seq (by kernel_rfl) (s_val (v_asB rfl) (s_nil (c_ret (n_ret (n_dnB rfl (by decide) rfl ?_)))))
   have e := ints_len (of_decide_eq_false h26)
   simp only [sameRB, *, bls, cond_true, cond_false, if_true, if_false, Bool.false_eq_true, decide_true, decide_false]
 refine c_skip (n_then (c_seq (r_seq (by kernel_rfl) (s_val (v_fd 2 (by kernel_rfl) rfl) (s_val (v_load1 (v := .slice _ _ _) (by kernel_rfl) rfl (.there .here) rfl) (s_val (v_lenS (T := 29) (m := 1) (by kernel_rfl) rfl rfl) (s_val (v_mvI rfl) (s_nil (c_block (c_loop (σ := Nat) (fun (j : Nat) f => ∃ g, (j ≤ xs.length ∧ xs.take j = ys.take j) ∧ f = (upd (upd (upd (upd g 2 (.pointer (some ⟨b2, 0, none⟩))) 3 (.pointer (some ⟨b3, 0, none⟩))) 29 (I xs.length)) 30 (I j))) (fun (j : Nat) => Has w (At w) [(b3, .cells (repC c2 n2 (.slice a2 ys.length p2)) 31), (b2, .cells (repC c1 n1 (.slice a1 xs.length p1)) 31)]) (fun (j : Nat) => xs.length - j) 0 ⟨_, ⟨Nat.zero_le _, rfl⟩, live4 rfl rfl rfl rfl⟩ (fun w hw => hw) ?_))))))))))
 rintro j _ ⟨g, ⟨hjl, hinv⟩, rfl⟩
 refine r_seq (by kernel_rfl) (s_val (v_lsI rfl rfl) (s_nil (c_seq (c_condR rfl rfl (fun h31 => ?_) (fun h31 => ?_)))))
 · refine c_exit (n_exit (n_exit (n_bhere (n_then (r_seq (by kernel_rfl) (s_val (v_asB rfl) (s_nil (c_ret (n_dnB rfl (by decide) rfl ?_)))))))))
   have e := ints_all (of_decide_eq_true h26) hinv (of_decide_eq_false h31)
   simp only [sameRB, *, bls, cond_true, cond_false, if_true, if_false, Bool.false_eq_true, decide_true, decide_false]
 have hj0 := of_decide_eq_true h31
 have hll := of_decide_eq_true h26
 obtain ⟨b, o, x, ha1, hxj, hfx⟩ := hx.get (j := j) (by omega)
 obtain ⟨b', o', y, ha2, hyj, hfy⟩ := hy.get (j := j) (by omega)
 refine c_skip (n_then (c_seq (c_block (r_seq (by kernel_rfl) (s_val (v_mvI rfl) (s_val (v_asI rfl) (s_nil (d_seq (by kernel_rfl) (by kernel_rfl) (fun w hw => hw.drew) (by kernel_rfl) (q_val (v_fd 2 (by kernel_rfl) rfl) (q_val (v_load1 (v := .slice _ _ _) (by kernel_rfl) rfl (.there .here) rfl) (q_val (v_mvI rfl) (q_val (v_idxS (size := 1) (k := .i64) (by kernel_rfl) (congrArg (fun a => Value.slice a xs.length p1) ha1) rfl ⟨by omega, by omega⟩) (q_val (v_load1o (v := I x) (by kernel_rfl) rfl (by simpa using hfx)) (q_val (v_fd 2 (by kernel_rfl) rfl) (q_val (v_load1 (v := .slice _ _ _) (by kernel_rfl) rfl .here rfl) (q_val (v_mvI rfl) (q_val (v_idxS (size := 1) (k := .i64) (by kernel_rfl) (congrArg (fun a => Value.slice a ys.length p2) ha2) rfl ⟨by omega, by omega⟩) (q_val (v_load1o (v := I y) (by kernel_rfl) rfl (by simpa using hfy)) (q_val (v_neq (k := .i64) rfl rfl) ?_)))))))))))))))))))
 refine q_nil (c_condNR rfl rfl (fun h43 => ?_) (fun h43 => ?_))
 · refine c_skip (n_bnormal (n_then (r_list (by kernel_rfl) (s_val (v_add rfl rfl (by omega)) (s_val (v_mvI rfl) (s_end (n_round (j + 1) ⟨_, ⟨by omega, same_take hinv hxj hyj (of_decide_eq_true h43)⟩, live4 rfl rfl rfl rfl⟩ (fun _ hw => hw) (by omega))))))))
 refine r_seq (by kernel_rfl) (s_val (v_asB rfl) (s_nil (c_ret (n_bret (n_ret (n_ret (n_bret (n_ret (n_dnB rfl (by decide) rfl ?_)))))))))
 have e := ints_bad hxj hyj (of_decide_eq_false h43)
 simp only [sameRB, *, bls, cond_true, cond_false, if_true, if_false, Bool.false_eq_true, decide_true, decide_false]
end Go.Proofs.YtmkboljfbmlebacGreat
namespace Go.Proofs.YtmkboljfbmlebacGreat
open Go.RowKit
set_option linter.unusedSimpArgs false
set_option linter.unusedVariables false
theorem at_below {w w' : World} (h : Bel w.heap.size w w') : More (At w) (At w') := fun a v ha => by
 show w'.cell? a = some v
 rw [h.cell (cell_lt ha)]; exact ha
def Tab (T : Nat → (Addr → Value → Prop) → Value → Prop) (d : Nat) (v : Value) (w : World) : Prop := T d (At w) v
def Eqv (x : Value) : (Addr → Value → Prop) → Value → Prop := fun _ v => v = x
def Any : (Addr → Value → Prop) → Value → Prop := fun _ _ => True
def row (d : Nat) (R : (Addr → Value → Prop) → Value → Prop) (T : Nat → (Addr → Value → Prop) → Value → Prop) : Nat → (Addr → Value → Prop) → Value → Prop := fun i => bif Nat.beq i d then R else T i
theorem eqv_mono (x : Value) : Mono (Eqv x) := fun _ _ _ _ h => h
theorem any_mono : Mono Any := fun _ _ _ _ _ => trivial
theorem row_mono {d : Nat} {R : (Addr → Value → Prop) → Value → Prop} {T : Nat → (Addr → Value → Prop) → Value → Prop} (hR : Mono R) (hT : ∀ i, Mono (T i)) : ∀ i, Mono (row d R T i) := fun i => by
 unfold row
 cases Nat.beq i d
 · exact hT i
 · exact hR
section
variable {P : Program} {n : Nat} {f : Nat → Value} {l : List Oper} {T : Nat → (Addr → Value → Prop) → Value → Prop} {Q : Exit → (Nat → Value) → World → Prop} {w0 : World} {F : Addr → Value → Prop} {L : List (Nat × Obj)}
theorem f_list {id : Nat} (hm : P.follows .mixedOrders = true) (hB : opsB n l.toArray = true) (hF : flowB .any l = true) (hT : ∀ i, Mono (T i)) (h : Obs P (Has w0 F L) f l (Tab T) l)
   (k : ∀ g w, Has w0 F L w → (∀ d ∈ dstsOf l, T d (At w) (g d)) → (∀ t, t ∉ dstsOf l → g t = f t) → Q .normal g w) : cC P n (.region id l.toArray true) Q f (Has w0 F L) :=
 d_flow hm hB hF (fun w w' hw hb => hw.below hb) (fun d v w w' _ hb h => hT d _ _ v (at_below hb) h) h k
theorem f_seq {id : Nat} {y : Code} (hm : P.follows .mixedOrders = true) (hB : opsB n l.toArray = true) (hF : flowB .any l = true) (hT : ∀ i, Mono (T i)) (h : Obs P (Has w0 F L) f l (Tab T) l)
   (k : ∀ g w, Has w0 F L w → (∀ d ∈ dstsOf l, T d (At w) (g d)) → (∀ t, t ∉ dstsOf l → g t = f t) → cw P n y Q g w) : cC P n (.seq (.region id l.toArray true) y) Q f (Has w0 F L) :=
 c_seq (f_list hm hB hF hT h k)
def Ox (P : Program) (T : Nat → (Addr → Value → Prop) → Value → Prop) (d : Nat) (op : Op) (ty : TypeId) (pos : String) (af : Array Edge) (gd : Option (Nat × Bool)) (g : Nat → Value) (w : World) : Prop :=
 opk P ⟨some d, op, ty, pos, af, gd⟩ g w (fun g' w' => ∃ v, g' = updo g (some d) v ∧ Bel w.heap.size w w' ∧ ∀ e, some d = some e → Tab T e v w')
variable {d : Nat} {op : Op} {ty : TypeId} {pos : String} {af : Array Edge} {C : World → Prop}
theorem ob_free (h : ∀ (g : Nat → Value) (w : World), C w → (∀ t ∈ (⟨some d, op, ty, pos, af, none⟩ : Oper).looksAt l.toArray, (t ∈ dstsOf l → Tab T t (g t) w) ∧ (t ∉ dstsOf l → g t = f t)) → Ox P T d op ty pos af none g w) : Ob P C f l (Tab T) ⟨some d, op, ty, pos, af, none⟩ := by
 intro g w hw hl
 rw [if_pos wanted_free]
 exact h g w hw hl
variable {g : Nat → Value} {w : World} {gd : Option (Nat × Bool)} {v : Value}
theorem x_val (hv : Val P g C ⟨some d, op, ty, pos, af, gd⟩ v) (hw : C w) (ht : T d (At w) v) : Ox P T d op ty pos af gd g w := by
 unfold Ox opk
 rw [hv.out w hw]
 exact ⟨v, rfl, Bel.refl _ _, fun e he => by simp at he; subst he; exact ht⟩
theorem x_call {k : FuncId} {xs : List Operand} {ats : Array TypeId} {vs : List Value} (hk : hasBody P k = true) (hx : xs.map (ev g) = vs) (hg : Gives P k vs w v) (ht : ∀ w', T d (At w') v) : Ox P T d (.call ⟨.value (.func k), xs.toArray, ats⟩) ty pos af gd g w := by
 unfold Ox opk
 rw [run_call hk w, hx]
 exact hg.out.mono fun e w' ⟨he, hb⟩ => ⟨v, he, v, rfl, hb, fun e he => by simp at he; subst he; exact ht w'⟩
theorem cC_at {y : Code} (h : cC P n y Q g C) (hw : C w) : cw P n y Q g w := h w hw
end
end Go.Proofs.YtmkboljfbmlebacGreat
namespace Go.Proofs.YtmkboljfbmlebacGreat
open Go.RowKit
set_option linter.unusedSimpArgs false
set_option linter.unusedVariables false
def payLt (p q : PayS) : Prop := p.cls < q.cls ∨ (p.cls = q.cls ∧ p.seq < q.seq)
def lessK (ps : List PayS) (i j : Int) : Prop := ∃ p q, ps[i.toNat]? = some p ∧ ps[j.toNat]? = some q ∧ payLt p q
theorem payLt_trans {p q r : PayS} (h1 : payLt p q) (h2 : payLt q r) : payLt p r := by unfold payLt at *; omega
theorem payLt_irrefl (p : PayS) : ¬ payLt p p := by unfold payLt; omega
theorem not_payLt_trans {p q r : PayS} (h1 : ¬ payLt q p) (h2 : ¬ payLt r q) : ¬ payLt r p := by unfold payLt at *; omega
theorem best_least (ps : List PayS) (bank : Int) (taken : List Int) : ∀ k, k ≤ ps.length → ∀ (j : Nat), j < k → Mine ps bank j → (j : Int) ∉ taken → 0 ≤ bestTo ps bank taken k ∧ ¬ lessK ps j (bestTo ps bank taken k)
 | 0, _, j, hj, _, _ => by omega
 | k + 1, hk, j, hj, hm, ht => by
   obtain ⟨p, hp⟩ : ∃ p, ps[k]? = some p := ⟨ps[k], by simp⟩
   rw [best_step hp]
   have hr := best_range ps bank taken k
   by_cases hjk : j < k
   · obtain ⟨h0, h1⟩ := best_least ps bank taken k (by omega) j hjk hm ht
     cases hw : wantB ps bank taken (bestTo ps bank taken k) k p
     · exact ⟨h0, h1⟩
     · simp only [cond_true]
       refine ⟨by omega, ?_⟩
       rintro ⟨a, b, ha, hb, hab⟩
       simp at hb; rw [hp] at hb; simp at hb; subst hb
       obtain ⟨c, hc⟩ : ∃ c, ps[(bestTo ps bank taken k).toNat]? = some c := ⟨ps[(bestTo ps bank taken k).toNat]'(by omega), by simp⟩
       have hlt : payLt p c := by
         simp only [wantB, better, hc, Bool.and_eq_true, Bool.or_eq_true, decide_eq_true_eq] at hw
         unfold payLt
         omega
       exact h1 ⟨a, c, ha, hc, payLt_trans hab hlt⟩
   · obtain rfl : j = k := by omega
     obtain ⟨_, q, hq, hs, hsrc⟩ := hm
     simp at hq; rw [hp] at hq; simp at hq; subst hq
     cases hw : wantB ps bank taken (bestTo ps bank taken j) j p
     · simp only [cond_false]
       have hnb : better ps (bestTo ps bank taken j) p = false := by
         simpa [wantB, hs, hsrc, ht] using hw
       simp only [better, Bool.or_eq_false_iff, decide_eq_false_iff_not] at hnb
       have h0 : 0 ≤ bestTo ps bank taken j := by omega
       refine ⟨h0, ?_⟩
       rintro ⟨a, b, ha, hb, hab⟩
       simp at ha; rw [hp] at ha; simp at ha; subst ha
       have h2 := hnb.2
       rw [hb] at h2
       simp only [Bool.or_eq_false_iff, decide_eq_false_iff_not, Bool.and_eq_false_iff] at h2
       unfold payLt at hab
       omega
     · simp only [cond_true]
       refine ⟨by omega, ?_⟩
       rintro ⟨a, b, ha, hb, hab⟩
       rw [ha] at hb; simp at hb; subst hb
       exact payLt_irrefl _ hab
structure QTo (ps : List PayS) (bank : Int) (k : Nat) (xs : List Int) : Prop where
 mine : ∀ i ∈ xs, Mine ps bank i
 nodup : xs.Nodup
 sorted : xs.Pairwise fun i j => ¬ lessK ps j i
 rest : ∀ j, Mine ps bank j → j ∉ xs → (∀ i ∈ xs, ¬ lessK ps j i) ∧ xs.length = k
theorem Mine.lt {ps : List PayS} {bank i : Int} (h : Mine ps bank i) : 0 ≤ i ∧ i.toNat < ps.length := by
 obtain ⟨h0, p, hp, _⟩ := h
 exact ⟨h0, (List.getElem?_eq_some_iff.1 hp).1⟩
theorem queueTo_spec (ps : List PayS) (bank : Int) : ∀ k, QTo ps bank k (queueTo ps bank k)
 | 0 => ⟨by simp [queueTo], by simp [queueTo], by simp [queueTo], fun j _ _ => by simp [queueTo]⟩
 | k + 1 => by
   have ih := queueTo_spec ps bank k
   cases hb : decide (0 ≤ bestTo ps bank (queueTo ps bank k) ps.length)
   · have hb0 := of_decide_eq_false hb
     rw [queueTo_no hb]
     refine ⟨ih.mine, ih.nodup, ih.sorted, fun j hj hn => ?_⟩
     exfalso
     obtain ⟨h0, h1⟩ := hj.lt
     have := best_least ps bank (queueTo ps bank k) ps.length (Nat.le_refl _) j.toNat h1 (by rwa [Int.toNat_of_nonneg h0]) (by rwa [Int.toNat_of_nonneg h0])
     exact hb0 this.1
   · have hb0 := of_decide_eq_true hb
     rw [queueTo_yes hb]
     obtain ⟨hm, hn⟩ := best_mine ps bank (queueTo ps bank k) ps.length hb0
     have hrest := ih.rest _ hm hn
     refine ⟨fun i hi => ?_, ?_, ?_, fun j hj hnj => ?_⟩
     · rcases List.mem_append.1 hi with hi | hi
       · exact ih.mine i hi
       · simp at hi; subst hi; exact hm
     · rw [List.nodup_append]
       refine ⟨ih.nodup, by simp, fun a ha b hb e => ?_⟩
       simp at hb; subst hb; subst e; exact hn ha
     · rw [List.pairwise_append]
       refine ⟨ih.sorted, by simp, fun a ha b hb => ?_⟩
       simp at hb; subst hb
       exact hrest.1 a ha
     · simp at hnj
       obtain ⟨h1, h2⟩ := ih.rest j hj hnj.1
       refine ⟨fun i hi => ?_, by simp [h2]⟩
       rcases List.mem_append.1 hi with hi | hi
       · exact h1 i hi
       · simp at hi; subst hi
         obtain ⟨g0, g1⟩ := hj.lt
         have := best_least ps bank (queueTo ps bank k) ps.length (Nat.le_refl _) j.toNat g1 (by rwa [Int.toNat_of_nonneg g0]) (by rw [Int.toNat_of_nonneg g0]; exact hnj.1)
         rw [Int.toNat_of_nonneg g0] at this
         exact this.2
theorem nodup_full : ∀ (n : Nat) (xs : List Int), xs.Nodup → (∀ i ∈ xs, 0 ≤ i ∧ i < n) → xs.length ≤ n ∧ (xs.length = n → ∀ j : Int, 0 ≤ j → j < n → j ∈ xs)
 | 0, xs, _, h => by
   cases xs with
   | nil => exact ⟨by simp, fun _ j h0 h1 => by omega⟩
   | cons a r => have := h a (by simp); omega
 | n + 1, xs, hn, h => by
   by_cases hm : (n : Int) ∈ xs
   · have hp := List.perm_cons_erase hm
     have hn' : (xs.erase (n : Int)).Nodup := hn.erase _
     have hl := hp.length_eq
     simp at hl
     have := nodup_full n (xs.erase (n : Int)) hn' (fun i hi => by
       have h1 := h i (List.mem_of_mem_erase hi)
       have h2 : i ≠ n := fun e => by subst e; exact (List.Nodup.not_mem_erase hn) hi
       omega)
     have h0 := List.length_pos_of_mem hm
     refine ⟨by omega, fun he j h0 h1 => ?_⟩
     by_cases hj : j = n
     · rw [hj]; exact hm
     · exact List.mem_of_mem_erase (this.2 (by omega) j h0 (by omega))
   · have := nodup_full n xs hn (fun i hi => by
       have h1 := h i hi
       have h2 : i ≠ n := fun e => hm (e ▸ hi)
       omega)
     exact ⟨by omega, fun he => by omega⟩
theorem queueM_all {ps : List PayS} {bank j : Int} (h : Mine ps bank j) : j ∈ queueM ps bank := by
 have hs := queueTo_spec ps bank ps.length
 by_cases hj : j ∈ queueTo ps bank ps.length
 · exact hj
 · have := (hs.rest j h hj).2
   have hf := nodup_full ps.length _ hs.nodup (fun i hi => by have := (hs.mine i hi).lt; omega)
   have := h.lt
   exact hf.2 (by assumption) j (by omega) (by omega)
theorem mem_queueM {ps : List PayS} {bank j : Int} : j ∈ queueM ps bank ↔ Mine ps bank j := ⟨queueM_mine, queueM_all⟩
def SeqsApart (ps : List PayS) : Prop := ∀ (i j : Nat) (p q : PayS), ps[i]? = some p → ps[j]? = some q → p.seq = q.seq → i = j
theorem lessK_total {ps : List PayS} {bank i j : Int} (hs : SeqsApart ps) (hi : Mine ps bank i) (hj : Mine ps bank j) (hne : i ≠ j) (h : ¬ lessK ps j i) : lessK ps i j := by
 obtain ⟨i0, p, hp, _⟩ := hi
 obtain ⟨j0, q, hq, _⟩ := hj
 refine ⟨p, q, hp, hq, ?_⟩
 have h1 : ¬ payLt q p := fun e => h ⟨q, p, hq, hp, e⟩
 have h2 : p.seq ≠ q.seq := fun e => hne (by have := hs _ _ p q hp hq e; omega)
 unfold payLt at *
 omega
theorem queueM_sorted {ps : List PayS} (hs : SeqsApart ps) (bank : Int) : (queueM ps bank).Pairwise (lessK ps) := by
 have h := queueTo_spec ps bank ps.length
 have h1 : (queueM ps bank).Pairwise fun i j => i ≠ j ∧ ¬ lessK ps j i := (List.Pairwise.and h.nodup h.sorted)
 exact (List.Pairwise.imp_of_mem (fun {a b} ha hb hab => lessK_total hs (queueM_mine ha) (queueM_mine hb) hab.1 hab.2) h1)
theorem queueM_unique {ps : List PayS} {bank : Int} {xs : List Int} (hn : xs.Nodup) (hm : ∀ i, i ∈ xs ↔ Mine ps bank i) (hx : xs.Pairwise (lessK ps)) (hs : SeqsApart ps) : xs = queueM ps bank := by
 have hp : xs.Perm (queueM ps bank) := (List.perm_ext_iff_of_nodup hn (queueTo_spec ps bank ps.length).nodup).2 fun i => (hm i).trans (mem_queueM (ps := ps) (bank := bank)).symm
 refine List.Perm.eq_of_pairwise (le := lessK ps) (fun a b _ _ h1 h2 => ?_) hx (queueM_sorted hs bank) hp
 obtain ⟨p, q, e1, e2, e3⟩ := h1
 obtain ⟨p', q', e4, e5, e6⟩ := h2
 rw [e1] at e5; rw [e2] at e4
 simp at e4 e5; subst e4; subst e5
 exact absurd (payLt_trans e3 e6) (payLt_irrefl _)
end Go.Proofs.YtmkboljfbmlebacGreat
namespace Go.Proofs.YtmkboljfbmlebacGreat
open Go.RowKit
set_option linter.unusedSimpArgs false
set_option linter.unusedVariables false
theorem drain_same {bank : Int} {s : QS} (h : (drain bank s).xs.length = s.xs.length) : firstM s.c s.ps bank = none ∧ drain bank s = s := by
 cases hf : firstM s.c s.ps bank with
 | none => exact ⟨rfl, drain_end hf⟩
 | some i =>
   exfalso
   rw [drain_go hf] at h
   have := (drain_facts bank (s.go i)).2.2
   simp only [QS.go, List.length_append, List.length_cons, List.length_nil] at this
   simp only [QS.go] at h
   omega
theorem sweep_rests : ∀ (m bank idle : Nat) (s : QS), 5 * cnt s.ps + (4 - idle) = m → bank < 4 → idle ≤ 4 → (∀ d, 1 ≤ d → d ≤ idle → firstM s.c s.ps (((bank + 4 - d) % 4 : Nat) : Int) = none) →
   ∀ b : Nat, b < 4 → firstM (sweepFrom bank idle s).c (sweepFrom bank idle s).ps b = none := by
 intro m
 induction m using Nat.strongRecOn with
 | _ m ih =>
   intro bank idle s hm hb hi h b hb4
   by_cases h4 : idle < 4
   · have hf := drain_facts bank s
     by_cases hl : (drain bank s).xs.length = s.xs.length
     · rw [sweep_idle h4 rfl hl]
       obtain ⟨h1, h2⟩ := drain_same hl
       rw [h2]
       refine ih _ ?_ ((bank + 1) % 4) (idle + 1) s rfl (Nat.mod_lt _ (by decide)) (by omega) (fun d hd1 hd2 => ?_) b hb4
       · omega
       · by_cases hd : d = 1
         · subst hd
           rw [show ((bank + 1) % 4 + 4 - 1) % 4 = bank by omega]; exact h1
         · have := h (d - 1) (by omega) (by omega)
           rwa [show (bank + 4 - (d - 1)) % 4 = ((bank + 1) % 4 + 4 - d) % 4 by omega] at this
     · rw [sweep_busy h4 rfl hl]
       exact ih _ (by omega) ((bank + 1) % 4) 0 _ rfl (Nat.mod_lt _ (by decide)) (by omega) (fun d hd1 hd2 => by omega) b hb4
   · rw [sweep_end h4]
     have hi4 : idle = 4 := by omega
     by_cases hbb : b < bank
     · have := h (bank - b) (by omega) (by omega)
       rwa [show (bank + 4 - (bank - b)) % 4 = b by omega] at this
     · have := h (bank + 4 - b) (by omega) (by omega)
       rwa [show (bank + 4 - (bank + 4 - b)) % 4 = b by omega] at this
theorem sweepM_rests {c : H} {ps : List PayS} (hg : goodB c ps = true) (b : Nat) (hb : b < 4) : firstM (sweepM c ps).c (sweepM c ps).ps b = none := by
 simp only [sweepM, hg, cond_true]
 exact sweep_rests _ 0 0 _ rfl (by decide) (by decide) (fun d h1 h2 => by omega) b hb
def Chain (c : H) (ps : List PayS) : List Int → Prop
 | [] => True
 | i :: r => (∃ b : Nat, b < 4 ∧ firstM c ps b = some i) ∧ Chain (settleC c ps i) (settleP ps i) r
def chainC (c : H) (ps : List PayS) : List Int → H
 | [] => c
 | i :: r => chainC (settleC c ps i) (settleP ps i) r
def chainP (ps : List PayS) : List Int → List PayS
 | [] => ps
 | i :: r => chainP (settleP ps i) r
def Goes (s t : QS) : Prop := ∃ r, t.xs = s.xs ++ r ∧ Chain s.c s.ps r ∧ t.c = chainC s.c s.ps r ∧ t.ps = chainP s.ps r
theorem Goes.refl (s : QS) : Goes s s := ⟨[], by simp, trivial, rfl, rfl⟩
theorem Goes.cons {s t : QS} {b : Nat} {i : Int} (hb : b < 4) (h : firstM s.c s.ps b = some i) (ht : Goes (s.go i) t) : Goes s t := by
 obtain ⟨r, h1, h2, h3, h4⟩ := ht
 exact ⟨i :: r, by rw [h1]; simp [QS.go], ⟨⟨b, hb, h⟩, h2⟩, h3, h4⟩
theorem chain_append : ∀ (r q : List Int) (c : H) (ps : List PayS), Chain c ps r → Chain (chainC c ps r) (chainP ps r) q → Chain c ps (r ++ q) ∧ chainC c ps (r ++ q) = chainC (chainC c ps r) (chainP ps r) q ∧ chainP ps (r ++ q) = chainP (chainP ps r) q
 | [], q, c, ps, _, h => ⟨h, rfl, rfl⟩
 | i :: r, q, c, ps, h1, h2 => by
   obtain ⟨e1, e2, e3⟩ := chain_append r q _ _ h1.2 h2
   exact ⟨⟨h1.1, e1⟩, e2, e3⟩
theorem Goes.trans {s t u : QS} (h1 : Goes s t) (h2 : Goes t u) : Goes s u := by
 obtain ⟨r, a1, a2, a3, a4⟩ := h1
 obtain ⟨q, b1, b2, b3, b4⟩ := h2
 rw [a3, a4] at b2 b3
 rw [a4] at b4
 obtain ⟨e1, e2, e3⟩ := chain_append r q _ _ a2 b2
 exact ⟨r ++ q, by rw [b1, a1, List.append_assoc], e1, by rw [b3, e2], by rw [b4, e3]⟩
theorem drain_goes : ∀ (m : Nat) (b : Nat) (s : QS), b < 4 → cnt s.ps = m → Goes s (drain b s) := by
 intro m
 induction m using Nat.strongRecOn with
 | _ m ih =>
   intro b s hb hm
   cases hf : firstM s.c s.ps b with
   | none => rw [drain_end hf]; exact Goes.refl s
   | some i =>
     rw [drain_go hf]
     obtain ⟨p, r, _, h1, _⟩ := firstM_spec hf
     have := cnt_settle h1
     exact Goes.cons hb hf (ih (cnt (s.go i).ps) (by simp only [QS.go]; omega) b (s.go i) hb rfl)
theorem sweep_goes : ∀ (m bank idle : Nat) (s : QS), 5 * cnt s.ps + (4 - idle) = m → bank < 4 → Goes s (sweepFrom bank idle s) := by
 intro m
 induction m using Nat.strongRecOn with
 | _ m ih =>
   intro bank idle s hm hb
   by_cases h4 : idle < 4
   · have hf := drain_facts bank s
     have hd := drain_goes _ bank s hb rfl
     by_cases hl : (drain bank s).xs.length = s.xs.length
     · rw [sweep_idle h4 rfl hl]
       exact hd.trans (ih _ (by omega) _ _ _ rfl (Nat.mod_lt _ (by decide)))
     · rw [sweep_busy h4 rfl hl]
       exact hd.trans (ih _ (by omega) _ _ _ rfl (Nat.mod_lt _ (by decide)))
   · rw [sweep_end h4]; exact Goes.refl s
theorem sweepM_goes {c : H} {ps : List PayS} (hg : goodB c ps = true) : Chain c ps (sweepM c ps).xs ∧ (sweepM c ps).c = chainC c ps (sweepM c ps).xs ∧ (sweepM c ps).ps = chainP ps (sweepM c ps).xs := by
 simp only [sweepM, hg, cond_true]
 obtain ⟨r, h1, h2, h3, h4⟩ := sweep_goes _ 0 0 ⟨c, ps, []⟩ rfl (by decide)
 simp only [List.nil_append] at h1
 rw [h1]
 exact ⟨h2, h3, h4⟩
end Go.Proofs.YtmkboljfbmlebacGreat
namespace Go.Proofs.YtmkboljfbmlebacGreat
open Go.RowKit
set_option linter.unusedSimpArgs false
set_option linter.unusedVariables false
def moveQ (ps : List PayS) (bank : Int) (x : H) : List Int → H
 | [] => x
 | i :: r => moveQ ps bank (match ps[i.toNat]? with | some p => moveM x bank p.dst p.amt | none => x) r
theorem moveQ_snoc (ps : List PayS) (bank : Int) : ∀ (xs : List Int) (x : H) (i : Int), moveQ ps bank x (xs ++ [i]) = (match ps[i.toNat]? with | some p => moveM (moveQ ps bank x xs) bank p.dst p.amt | none => moveQ ps bank x xs)
 | [], x, i => rfl
 | j :: r, x, i => by simp only [List.cons_append, moveQ]; exact moveQ_snoc ps bank r _ i
def movesTo (h : H) (ps : List PayS) (n : Int → Int) : Nat → H
 | 0 => h
 | b + 1 => moveQ ps b (movesTo h ps n b) ((queueM ps b).take (n b).toNat)
def okBank (x : H) (b : Int) : Bool := !decide (wr (x.has b + x.cred b) < 0) && a4 fun t => !(decide (0 ≤ x.lim b t) && decide (x.lim b t < wr (x.sent b t - x.sent t b)))
def togetherM (h : H) (ps : List PayS) (n : Int → Int) : Bool :=
 goodB h ps && (a4 fun b => withinB (n b) 0 (queueM ps b).length) && a4 fun b => decide (n b = 0) || okBank (movesTo h ps n 4) b
def amtOf (ps : List PayS) (i : Int) : Int := match ps[i.toNat]? with | some p => p.amt | none => 0
def toOf (ps : List PayS) (d i : Int) : Int := match ps[i.toNat]? with | some p => if p.dst = d then p.amt else 0 | none => 0
def outS (ps : List PayS) : List Int → Int
 | [] => 0
 | i :: r => amtOf ps i + outS ps r
def toS (ps : List PayS) (d : Int) : List Int → Int
 | [] => 0
 | i :: r => toOf ps d i + toS ps d r
def GoodL (ps : List PayS) (bank : Int) (xs : List Int) : Prop := ∀ i ∈ xs, ∃ p, ps[i.toNat]? = some p ∧ goodTransferB bank p.dst p.amt = true
structure Near (k : Int) (h : H) : Prop where
 has : ∀ i : Int, 0 ≤ i ∧ i < 4 → -1099511627776 - k * 1000000 ≤ h.has i ∧ h.has i ≤ 1099511627776 + k * 1000000
 sent : ∀ i j : Int, 0 ≤ i ∧ i < 4 → 0 ≤ j ∧ j < 4 → 0 ≤ h.sent i j ∧ h.sent i j ≤ 1099511627776 + k * 1000000
theorem GoodH.near {h : H} (g : GoodH h) : Near 0 h := ⟨fun i hi => by have := g.has i hi; omega, fun i j hi hj => by have := g.sent i j hi hj; omega⟩
theorem move_at {h : H} {k : Int} (hn : Near k h) (hk : k ≤ 1000000) {a b n : Int} (ht : goodTransferB a b n = true) :
   moveM h a b n = { h with has := up1 (up1 h.has a (h.has a - n)) b (h.has b + n), sent := up2 h.sent a b (h.sent a b + n) } := by
 obtain ⟨ha, hb, hne, h1, h2⟩ := transfer_spec ht
 have e1 := hn.has a ha
 have e2 := hn.has b hb
 have e3 := hn.sent a b ha hb
 unfold moveM
 rw [if_pos ht]
 have x1 : wr (h.has a - n) = h.has a - n := wr_in (by omega) (by omega)
 have x2 : up1 h.has a (wr (h.has a - n)) b = h.has b := by unfold up1; rw [if_neg (fun e => hne e.symm)]
 rw [x2, x1, wr_in (show -9223372036854775808 ≤ h.has b + n by omega) (by omega), wr_in (show -9223372036854775808 ≤ h.sent a b + n by omega) (by omega)]
theorem moveQ_spec (ps : List PayS) (bank : Int) : ∀ (xs : List Int) (h : H) (k : Int), GoodL ps bank xs → Near k h → 0 ≤ k → k + xs.length ≤ 1000000 →
   (∀ i : Int, 0 ≤ i ∧ i < 4 → (moveQ ps bank h xs).has i = h.has i - (if i = bank then outS ps xs else 0) + toS ps i xs) ∧
   (∀ i j : Int, 0 ≤ i ∧ i < 4 → 0 ≤ j ∧ j < 4 → (moveQ ps bank h xs).sent i j = h.sent i j + (if i = bank then toS ps j xs else 0)) ∧
   (moveQ ps bank h xs).cred = h.cred ∧ (moveQ ps bank h xs).lim = h.lim ∧ Near (k + xs.length) (moveQ ps bank h xs)
 | [], h, k, _, hn, _, _ => ⟨fun i _ => by simp [moveQ, outS, toS], fun i j _ _ => by simp [moveQ, toS], rfl, rfl, by simpa [moveQ] using hn⟩
 | x :: r, h, k, hg, hn, h0, hk => by
   obtain ⟨p, hp, ht⟩ := hg x (by simp)
   simp only [List.length_cons] at hk
   obtain ⟨ha, hb, hne, h1, h2⟩ := transfer_spec ht
   have hm := move_at hn (by omega) ht
   have hn' : Near (k + 1) (moveM h bank p.dst p.amt) := by
     rw [hm]
     refine ⟨fun i hi => ?_, fun i j hi hj => ?_⟩
     · have e1 := hn.has i hi
       simp only [up1]
       split
       · rename_i e; subst e; omega
       · split
         · rename_i e; subst e; omega
         · omega
     · have e1 := hn.sent i j hi hj
       simp only [up2]
       split
       · rename_i e; obtain ⟨e2, e3⟩ := e; subst e2; subst e3; omega
       · omega
   obtain ⟨i1, i2, i3, i4, i5⟩ := moveQ_spec ps bank r (moveM h bank p.dst p.amt) (k + 1) (fun i hi => hg i (by simp [hi])) hn' (by omega) (by omega)
   have hq : moveQ ps bank h (x :: r) = moveQ ps bank (moveM h bank p.dst p.amt) r := by simp only [moveQ, hp]
   rw [hq]
   refine ⟨fun i hi => ?_, fun i j hi hj => ?_, ?_, ?_, ?_⟩
   · rw [i1 i hi, hm]
     simp only [up1, outS, toS, amtOf, toOf, hp]
     by_cases e1 : i = p.dst
     · rw [e1]
       have e2 : ¬ p.dst = bank := fun e => hne e.symm
       simp only [e2, if_true, if_false]; omega
     · have e1' : ¬ p.dst = i := fun e => e1 e.symm
       by_cases e2 : i = bank
       · rw [e2]
         rw [e2] at e1 e1'
         simp only [e1, e1', if_true, if_false]; omega
       · simp only [e1, e1', e2, if_false]; omega
   · rw [i2 i j hi hj, hm]
     simp only [up2, toS, toOf, hp]
     by_cases e1 : i = bank
     · rw [e1]
       by_cases e2 : j = p.dst
       · rw [e2]; simp only [and_self, if_true]; omega
       · have e2' : ¬ p.dst = j := fun e => e2 e.symm
         simp only [e2, e2', and_false, if_true, if_false]; omega
     · simp only [e1, false_and, if_false]
   · rw [i3, hm]
   · rw [i4, hm]
   · have : k + ((x :: r).length : Int) = k + 1 + (r.length : Int) := by simp only [List.length_cons]; omega
     rw [this]; exact i5
theorem toOf_nonneg {ps : List PayS} {bank : Int} {xs : List Int} (hg : GoodL ps bank xs) (d : Int) : ∀ i ∈ xs, 0 ≤ toOf ps d i := fun i hi => by
 obtain ⟨p, hp, ht⟩ := hg i hi
 obtain ⟨_, _, _, h1, h2⟩ := transfer_spec ht
 simp only [toOf, hp]
 split <;> omega
theorem toS_take (ps : List PayS) (d : Int) : ∀ (xs : List Int), (∀ i ∈ xs, 0 ≤ toOf ps d i) → ∀ (a b : Nat), a ≤ b → toS ps d (xs.take a) ≤ toS ps d (xs.take b)
 | [], _, a, b, _ => by simp [toS]
 | x :: r, h, a, b, hab => by
   cases a with
   | zero =>
     have : ∀ ys : List Int, (∀ i ∈ ys, 0 ≤ toOf ps d i) → 0 ≤ toS ps d ys := by
       intro ys
       induction ys with
       | nil => intro _; simp [toS]
       | cons y r ih => intro h; have := h y (by simp); have := ih (fun i hi => h i (by simp [hi])); simp only [toS]; omega
     simp only [List.take_zero, toS]
     exact this _ (fun i hi => h i (List.mem_of_mem_take hi))
   | succ a =>
     cases b with
     | zero => omega
     | succ b =>
       simp only [List.take_succ_cons, toS]
       have := toS_take ps d r (fun i hi => h i (by simp [hi])) a b (by omega)
       omega
end Go.Proofs.YtmkboljfbmlebacGreat
namespace Go.Proofs.YtmkboljfbmlebacGreat
open Go.RowKit
set_option linter.unusedSimpArgs false
set_option linter.unusedVariables false
theorem outPays {F G F' : Addr → Value → Prop} {h0 h : H} {ps0 ps : List PayS} (hp : PaysIn F h0.pa h0.pl ps0) (hF : More F F') (hG : More G F') (ho : (h.pa = h0.pa ∧ h.pl = h0.pl ∧ ps = ps0) ∨ PaysIn G h.pa h.pl ps) : PaysIn F' h.pa h.pl ps := by
 rcases ho with ⟨h1, h2, rfl⟩ | ho
 · rw [h1, h2]; exact hp.mono hF
 · exact ho.mono hG
theorem same_core {h k : H} {ps : List PayS} (hc : h.core = k.core) (hl : h.pl = k.pl) : sameB h ps k ps = true := by
 have e1 : h.has = k.has := show h.core.has = k.core.has by rw [hc]
 have e2 : h.cred = k.cred := show h.core.cred = k.core.cred by rw [hc]
 have e3 : h.sent = k.sent := show h.core.sent = k.core.sent by rw [hc]
 have e4 : h.lim = k.lim := show h.core.lim = k.core.lim by rw [hc]
 have e5 : h.next = k.next := show h.core.next = k.core.next by rw [hc]
 exact same_of (fun i _ => ⟨by rw [e1], by rw [e2]⟩) (fun i j _ _ => ⟨by rw [e3], by rw [e4]⟩) e5 hl
theorem chainP_len : ∀ (r : List Int) (ps : List PayS), (chainP ps r).length = ps.length
 | [], _ => rfl
 | i :: r, ps => by simp only [chainP]; rw [chainP_len r, settleP_len]
theorem chain_len : ∀ (r : List Int) (c : H) (ps : List PayS), Chain c ps r → r.length ≤ cnt ps
 | [], _, _, _ => by simp
 | i :: r, c, ps, h => by
   obtain ⟨⟨b, _, hf⟩, h2⟩ := h
   obtain ⟨p, _, _, h3, _⟩ := firstM_spec hf
   have := cnt_settle h3
   have := chain_len r _ _ h2
   simp only [List.length_cons]; omega
theorem sweepM_len (c : H) (ps : List PayS) : (sweepM c ps).ps.length = ps.length ∧ (sweepM c ps).xs.length ≤ ps.length := by
 cases hg : goodB c ps
 · simp [sweepM, hg]
 · obtain ⟨h1, h2, h3⟩ := sweepM_goes hg
   refine ⟨by rw [h3, chainP_len], ?_⟩
   have := chain_len _ _ _ h1
   have h4 : cnt ps ≤ ps.length := List.countP_le_length
   omega
section
variable {P : Program} {f : Nat → Value} {l : List Oper} {T : Nat → (Addr → Value → Prop) → Value → Prop} {d : Nat} {op : Op} {ty : TypeId} {pos : String} {af : Array Edge} {C : World → Prop}
end
end Go.Proofs.YtmkboljfbmlebacGreat
namespace Go.Proofs.YtmkboljfbmlebacGreat
open Go.RowKit
set_option linter.unusedSimpArgs false
set_option linter.unusedVariables false
def sliceCells (P : Program) (T : TypeId) (len : Nat) (vs : List (Nat × Value)) : Option (TypeId × Array Value) := match P.underlying T with
 | some (.slice e) => match P.info? e with
   | some i => match i.zero with
     | some z => if len * i.size ≤ 100000 ∧ 0 < len * i.size then (Instr.fill (fun k => some (k * i.size, i.size)) ((Array.range (len * i.size)).map (z.cells[· % z.cells.size]!)) vs).map fun cs => (e, cs) else none
     | none => none
   | none => none
 | _ => none
section
variable {P : Program} {ops : Array Oper} {K : (Nat → Value) → World → Prop} {rest : List Oper} {f : Nat → Value} {d : Nat} {ty : TypeId} {pos : String} {af : Array Edge} {w0 : World} {F : Addr → Value → Prop} {E L : List (Nat × Obj)}
theorem s_buildS {T e len : Nat} {parts : List (Nat × Operand)} {vs : List (Nat × Value)} {cs : Array Value} (hv : parts.map (fun p => (p.1, ev f p.2)) = vs) (h : sliceCells P T len vs = some (e, cs))
   (kk : ∀ b, sC P ops K rest (upd f d (.slice (some ⟨b, 0, none⟩) len len)) (Has w0 F ((b, .cells cs e) :: L))) :
   sC P ops K (⟨some d, .buildSlice T len parts.toArray, ty, pos, af, none⟩ :: rest) f (Has w0 F L) := by
 intro w hw
 unfold sliceCells at h
 split at h
 · rename_i e' hu
   split at h
   · rename_i i hi
     split at h
     · rename_i z hz
       split at h
       · rename_i hb
         cases hfl : Instr.fill (fun k => some (k * i.size, i.size)) ((Array.range (len * i.size)).map (z.cells[· % z.cells.size]!)) vs with
         | none => rw [hfl] at h; cases h
         | some cs' =>
           rw [hfl] at h
           simp at h
           obtain ⟨rfl, rfl⟩ := h
           have hr := run_buildSlice (P := P) w T e' len vs.toArray cs' i z hu hi hz (by omega) (by omega) (by simpa using hfl)
           have e1 : (parts.toArray.map fun p => (p.1, ev f p.2)) = vs.toArray := by simp [hv]
           unfold sw
           rw [if_pos wanted_free]
           unfold opk
           have : (execOp (ev f) ⟨some d, .buildSlice T len parts.toArray, ty, pos, af, none⟩).run P w = .ok (.value (.slice (some ⟨w.heap.size, 0, none⟩) len len)) (w.alloc (.cells cs' e')) := by
             simp only [execOp]
             rw [e1]
             simp [hr]
           rw [this]
           exact kk _ _ (hw.alloc _)
       · cases h
     · cases h
   · cases h
 · cases h
end
end Go.Proofs.YtmkboljfbmlebacGreat
namespace Go.Proofs.YtmkboljfbmlebacGreat
open Go.RowKit
set_option linter.unusedSimpArgs false
set_option linter.unusedVariables false
def GoodPs (ps : List PayS) : Prop := ∀ p ∈ ps, goodPayB p = true
theorem goB_all {nx : Int} : ∀ (ps : List PayS) (seen : List Int), goB nx seen ps = true → GoodPs ps ∧ (∀ p ∈ ps, p.seq ∉ seen) ∧ ∀ (i j : Nat) (p q : PayS), ps[i]? = some p → ps[j]? = some q → p.seq = q.seq → i = j
 | [], seen, _ => ⟨fun p hp => (by cases hp), fun p hp => (by cases hp), fun i j p q h => (by simp at h)⟩
 | x :: r, seen, h => by
   simp only [goB] at h
   cases hb : (!goodPayB x || decide (nx ≤ x.seq) || decide (x.seq ∈ seen))
   · rw [hb] at h
     simp only [cond_false] at h
     simp only [Bool.or_eq_false_iff, Bool.not_eq_false', decide_eq_false_iff_not] at hb
     obtain ⟨h1, h2, h3⟩ := goB_all r _ h
     have hx : ∀ p ∈ r, p.seq ≠ x.seq := fun p hp e => h2 p hp (by rw [e]; simp)
     refine ⟨fun p hp => ?_, fun p hp => ?_, fun i j p q hi hj e => ?_⟩
     · rcases List.mem_cons.1 hp with rfl | hp
       · exact hb.1.1
       · exact h1 p hp
     · rcases List.mem_cons.1 hp with rfl | hp
       · exact hb.2
       · exact fun hm => h2 p hp (by simp [hm])
     · cases i with
       | zero =>
         cases j with
         | zero => rfl
         | succ j =>
           simp at hi hj; subst hi
           exact absurd e.symm (hx q (List.mem_of_getElem? hj))
       | succ i =>
         cases j with
         | zero =>
           simp at hi hj; subst hj
           exact absurd e (hx p (List.mem_of_getElem? hi))
         | succ j =>
           simp at hi hj
           rw [h3 i j p q hi hj e]
   · rw [hb] at h; cases h
theorem good_pays {h : H} {ps : List PayS} (hg : goodB h ps = true) : GoodPs ps ∧ SeqsApart ps ∧ ps.length ≤ 24 := by
 unfold goodB goodPaysB at hg
 simp only [Bool.and_eq_true] at hg
 obtain ⟨⟨⟨⟨_, h1⟩, _⟩, _⟩, _⟩ := hg
 cases hl : decide (24 < (ps.length : Int))
 · rw [hl] at h1
   simp only [cond_false] at h1
   obtain ⟨e1, _, e3⟩ := goB_all ps [] h1
   have := of_decide_eq_false hl
   exact ⟨e1, e3, by omega⟩
 · rw [hl] at h1; cases h1
theorem settleP_good {ps : List PayS} (hg : GoodPs ps) (i : Int) : GoodPs (settleP ps i) := by
 unfold settleP
 split
 · rename_i p hs
   intro q hq
   obtain ⟨_, hp, _⟩ := settles_spec hs
   rcases List.mem_or_eq_of_mem_set hq with hq | rfl
   · exact hg q hq
   · have := hg p (List.mem_of_getElem? hp)
     simp only [goodPayB, goodStateB, Bool.and_eq_true] at this ⊢
     exact ⟨⟨this.1.1, by simp⟩, this.2⟩
 · exact hg
theorem pay_transfer {p : PayS} (h : goodPayB p = true) : goodTransferB p.src p.dst p.amt = true := by
 simp only [goodPayB, Bool.and_eq_true] at h
 exact h.1.1.1
end Go.Proofs.YtmkboljfbmlebacGreat
namespace Go.Proofs.YtmkboljfbmlebacGreat
open Go.RowKit
set_option linter.unusedSimpArgs false
set_option linter.unusedVariables false
theorem settleP_at {ps : List PayS} {i : Int} {p : PayS} (h : settles ps i = some p) (j : Nat) : (settleP ps i)[j]? = if j = i.toNat then some { p with sta := 2 } else ps[j]? := by
 obtain ⟨h0, hp, h1⟩ := settles_spec h
 have hlt := (List.getElem?_eq_some_iff.1 hp).1
 simp only [settleP, h]
 rw [List.getElem?_set]
 by_cases hj : j = i.toNat
 · subst hj; simp [hlt]
 · rw [if_neg (Ne.symm hj), if_neg hj]
theorem settleP_old {ps : List PayS} {i : Int} {j : Nat} {q : PayS} (h : (settleP ps i)[j]? = some q) : ∃ p, ps[j]? = some p ∧ p.seq = q.seq ∧ p.cls = q.cls := by
 cases hs : settles ps i with
 | none => simp only [settleP, hs] at h; exact ⟨q, h, rfl, rfl⟩
 | some p =>
   rw [settleP_at hs] at h
   split at h
   · rename_i e
     subst e
     simp at h; subst h
     exact ⟨p, (settles_spec hs).2.1, rfl, rfl⟩
   · exact ⟨q, h, rfl, rfl⟩
theorem settleP_new {ps : List PayS} {i : Int} {j : Nat} {p : PayS} (h : ps[j]? = some p) : ∃ q, (settleP ps i)[j]? = some q ∧ p.seq = q.seq ∧ p.cls = q.cls := by
 have hlt := (List.getElem?_eq_some_iff.1 h).1
 obtain ⟨q, hq⟩ : ∃ q, (settleP ps i)[j]? = some q := ⟨(settleP ps i)[j]'(by rw [settleP_len]; exact hlt), by simp⟩
 obtain ⟨p', hp', e⟩ := settleP_old hq
 rw [h] at hp'; simp at hp'; subst hp'
 exact ⟨q, hq, e⟩
theorem SeqsApart.settle {ps : List PayS} (hs : SeqsApart ps) (n : Int) : SeqsApart (settleP ps n) := by
 intro i j p q hp hq e
 obtain ⟨p', hp', e1, _⟩ := settleP_old hp
 obtain ⟨q', hq', e2, _⟩ := settleP_old hq
 exact hs i j p' q' hp' hq' (by omega)
theorem lessK_settle {ps : List PayS} {n a b : Int} (h : lessK ps a b) : lessK (settleP ps n) a b := by
 obtain ⟨p, q, hp, hq, hl⟩ := h
 obtain ⟨p', hp', e1, e2⟩ := settleP_new (i := n) hp
 obtain ⟨q', hq', e3, e4⟩ := settleP_new (i := n) hq
 exact ⟨p', q', hp', hq', by unfold payLt at *; omega⟩
theorem queueM_nodup (ps : List PayS) (bank : Int) : (queueM ps bank).Nodup := (queueTo_spec ps bank ps.length).nodup
theorem queue_tail {ps : List PayS} {bank i : Int} {r : List Int} (hs : SeqsApart ps) (hq : queueM ps bank = i :: r) : queueM (settleP ps i) bank = r := by
 have hn := queueM_nodup ps bank
 rw [hq] at hn
 obtain ⟨hn1, hn2⟩ := List.nodup_cons.1 hn
 obtain ⟨p, hst, hpi, hsta, hsrc⟩ := (queueM_mine (show i ∈ queueM ps bank by rw [hq]; simp)).settles
 have hi0 := (settles_spec hst).1
 have hso := queueM_sorted hs bank
 rw [hq] at hso
 refine (queueM_unique hn2 (fun j => ⟨fun hj => ?_, fun hj => ?_⟩) ((List.pairwise_cons.1 hso).2.imp fun h => lessK_settle h) (hs.settle i)).symm
 · obtain ⟨j0, q, h1, h2, h3⟩ := queueM_mine (show j ∈ queueM ps bank by rw [hq]; exact List.mem_cons_of_mem _ hj)
   have hne : j.toNat ≠ i.toNat := fun e => hn1 (by have : j = i := by omega
                                                    rw [← this]; exact hj)
   exact ⟨j0, q, by rw [settleP_at hst, if_neg hne]; exact h1, h2, h3⟩
 · obtain ⟨j0, q, h1, h2, h3⟩ := hj
   rw [settleP_at hst] at h1
   split at h1
   · simp at h1; subst h1; simp at h2
   · rename_i hne
     have : j ∈ queueM ps bank := queueM_all ⟨j0, q, h1, h2, h3⟩
     rw [hq] at this
     rcases List.mem_cons.1 this with e | h
     · exact absurd (by rw [e]) hne
     · exact h
theorem drain_xs (bank : Int) : ∀ (m : Nat) (c : H) (ps : List PayS) (ys xs : List Int), cnt ps = m → drain bank ⟨c, ps, ys ++ xs⟩ = ⟨(drain bank ⟨c, ps, xs⟩).c, (drain bank ⟨c, ps, xs⟩).ps, ys ++ (drain bank ⟨c, ps, xs⟩).xs⟩ := by
 intro m
 induction m using Nat.strongRecOn with
 | _ m ih =>
   intro c ps ys xs hm
   cases h : firstM c ps bank with
   | none => rw [drain_end (s := ⟨c, ps, ys ++ xs⟩) h, drain_end (s := ⟨c, ps, xs⟩) h]
   | some i =>
     rw [drain_go (s := ⟨c, ps, ys ++ xs⟩) h, drain_go (s := ⟨c, ps, xs⟩) h]
     obtain ⟨p, r, _, h1, _⟩ := firstM_spec h
     have hc := cnt_settle h1
     have := ih (cnt (settleP ps i)) (by omega) (settleC c ps i) (settleP ps i) ys (xs ++ [i]) rfl
     simp only [QS.go]
     rw [List.append_assoc]
     exact this
theorem drain_app (bank : Int) (c : H) (ps : List PayS) (ys : List Int) : drain bank ⟨c, ps, ys⟩ = ⟨(drain bank ⟨c, ps, []⟩).c, (drain bank ⟨c, ps, []⟩).ps, ys ++ (drain bank ⟨c, ps, []⟩).xs⟩ := by
 have := drain_xs bank _ c ps ys [] rfl
 rwa [List.append_nil] at this
theorem drain_keeps (bank : Int) : ∀ (m : Nat) (s : QS), cnt s.ps = m → SeqsApart s.ps → SeqsApart (drain bank s).ps ∧ (drain bank s).ps.length = s.ps.length := by
 intro m
 induction m using Nat.strongRecOn with
 | _ m ih =>
   intro s hm hs
   cases h : firstM s.c s.ps bank with
   | none => rw [drain_end h]; exact ⟨hs, rfl⟩
   | some i =>
     rw [drain_go h]
     obtain ⟨p, r, _, h1, _⟩ := firstM_spec h
     have hc := cnt_settle h1
     obtain ⟨e1, e2⟩ := ih (cnt (settleP s.ps i)) (by omega) (s.go i) rfl (hs.settle i)
     exact ⟨e1, e2.trans (settleP_len _ _)⟩
theorem pass_step {c : H} {ps : List PayS} (hg : goodB c ps = true) {k idle : Nat} {s : QS} (hk : k < 4) (hi : idle ≤ 4) (hs : sweepFrom k idle s = sweepM c ps) :
   ∃ idle', idle' ≤ 4 ∧ sweepFrom ((k + 1) % 4) idle' (drain k s) = sweepM c ps ∧ ((drain k s).xs.length = s.xs.length → idle' = 4 ∨ idle' = idle + 1) := by
 by_cases h4 : idle < 4
 · by_cases hx : (drain k s).xs.length = s.xs.length
   · exact ⟨idle + 1, by omega, by rw [← hs, sweep_idle h4 rfl hx], fun _ => .inr rfl⟩
   · exact ⟨0, by omega, by rw [← hs, sweep_busy h4 rfl hx], fun h => absurd h hx⟩
 · rw [sweep_end h4] at hs
   have hr := sweepM_rests hg k hk
   rw [← hs] at hr
   refine ⟨4, by omega, ?_, fun _ => .inl rfl⟩
   rw [drain_end hr, sweep_end (by omega)]
   exact hs
def cmpI (a b : Int) : Int := bif decide (a < b) then -1 else bif decide (b < a) then 1 else 0
def cmpP (p q : PayS) : Int := bif decide (cmpI p.cls q.cls = 0) then cmpI p.seq q.seq else cmpI p.cls q.cls
theorem cmpI_neg (a b : Int) : cmpI a b < 0 ↔ a < b := by
 unfold cmpI
 by_cases h1 : a < b
 · simp [h1]
 · by_cases h2 : b < a <;> simp [h1, h2]
theorem cmpI_zero (a b : Int) : cmpI a b = 0 ↔ a = b := by
 unfold cmpI
 by_cases h1 : a < b
 · simp [h1]; omega
 · by_cases h2 : b < a
   · simp [h1, h2]; omega
   · simp [h1, h2]; omega
theorem cmpP_neg (p q : PayS) : cmpP p q < 0 ↔ payLt p q := by
 unfold cmpP payLt
 by_cases h : cmpI p.cls q.cls = 0
 · have := (cmpI_zero _ _).1 h
   simp only [h, decide_true, cond_true, cmpI_neg]; omega
 · have h' : ¬ p.cls = q.cls := fun e => h ((cmpI_zero _ _).2 e)
   simp only [h, decide_false, cond_false, cmpI_neg]; omega
def waitTo (ps : List PayS) (bank : Int) : Nat → List Int
 | 0 => []
 | k + 1 => match ps[k]? with
   | some p => bif decide (p.src = bank) && decide (p.sta = 1) then waitTo ps bank k ++ [(k : Int)] else waitTo ps bank k
   | none => waitTo ps bank k
theorem wait_step {ps : List PayS} {bank : Int} {k : Nat} {p : PayS} (h : ps[k]? = some p) : waitTo ps bank (k + 1) = bif decide (p.src = bank) && decide (p.sta = 1) then waitTo ps bank k ++ [(k : Int)] else waitTo ps bank k := by
 simp only [waitTo, h]
theorem wait_len (ps : List PayS) (bank : Int) : ∀ k, (waitTo ps bank k).length ≤ k
 | 0 => by simp [waitTo]
 | k + 1 => by
   have := wait_len ps bank k
   unfold waitTo
   split
   · rename_i p _
     cases decide (p.src = bank) && decide (p.sta = 1)
     · simp only [cond_false]; omega
     · simp only [cond_true, List.length_append, List.length_cons, List.length_nil]; omega
   · omega
theorem wait_spec (ps : List PayS) (bank : Int) : ∀ k, (waitTo ps bank k).Nodup ∧ ∀ i, i ∈ waitTo ps bank k ↔ Mine ps bank i ∧ i < k
 | 0 => ⟨by simp [waitTo], fun i => ⟨fun h => by simp [waitTo] at h, fun ⟨h1, h2⟩ => by have := h1.1; omega⟩⟩
 | k + 1 => by
   obtain ⟨h1, h2⟩ := wait_spec ps bank k
   have hno : ∀ i, (∀ p, ps[k]? = some p → ¬ (p.src = bank ∧ p.sta = 1)) → ((Mine ps bank i ∧ i < k) ↔ (Mine ps bank i ∧ i < ((k + 1 : Nat) : Int))) := fun i hn =>
     ⟨fun ⟨a, b⟩ => ⟨a, by omega⟩, fun ⟨a, b⟩ => ⟨a, by
       obtain ⟨i0, p, hp, h3, h4⟩ := a
       rcases Int.lt_or_le i k with h | h
       · exact h
       · have e : i.toNat = k := by omega
         rw [e] at hp
         exact absurd ⟨h4, h3⟩ (hn p hp)⟩⟩
   cases hp : ps[k]? with
   | none =>
     have e : waitTo ps bank (k + 1) = waitTo ps bank k := by simp only [waitTo, hp]
     rw [e]
     exact ⟨h1, fun i => (h2 i).trans (hno i (fun p h => by rw [hp] at h; cases h))⟩
   | some p =>
     rw [wait_step hp]
     cases hc : decide (p.src = bank) && decide (p.sta = 1)
     · simp only [cond_false]
       refine ⟨h1, fun i => (h2 i).trans (hno i (fun q h => ?_))⟩
       rw [hp] at h; simp at h; subst h
       simpa using hc
     · simp only [cond_true]
       simp at hc
       refine ⟨?_, fun i => ?_⟩
       · rw [List.nodup_append]
         refine ⟨h1, by simp, fun a ha b hb e => ?_⟩
         simp at hb; subst hb; subst e
         have := ((h2 _).1 ha).2
         omega
       · rw [List.mem_append, h2]
         constructor
         · rintro (⟨a, b⟩ | h)
           · exact ⟨a, by omega⟩
           · simp at h; subst h
             exact ⟨⟨by omega, p, by simpa using hp, hc.2, hc.1⟩, by omega⟩
         · rintro ⟨a, b⟩
           by_cases e : i = k
           · exact .inr (by simp [e])
           · exact .inl ⟨a, by omega⟩
theorem wait_all (ps : List PayS) (bank : Int) (i : Int) : i ∈ waitTo ps bank ps.length ↔ Mine ps bank i := by
 rw [(wait_spec ps bank ps.length).2]
 exact ⟨fun h => h.1, fun h => ⟨h, by have := h.lt; omega⟩⟩
theorem sorted_queue {ps : List PayS} {bank : Int} {xs : List Int} (hs : SeqsApart ps) (hp : xs.Perm (waitTo ps bank ps.length)) (ho : xs.Pairwise fun i j => ¬ lessK ps j i) : xs = queueM ps bank := by
 have hn : xs.Nodup := hp.nodup_iff.2 (wait_spec ps bank ps.length).1
 have hm : ∀ i, i ∈ xs ↔ Mine ps bank i := fun i => (hp.mem_iff).trans (wait_all ps bank i)
 refine queueM_unique hn hm ?_ hs
 have h1 : xs.Pairwise fun i j => i ≠ j ∧ ¬ lessK ps j i := List.Pairwise.and hn ho
 exact List.Pairwise.imp_of_mem (fun {a b} ha hb hab => lessK_total hs ((hm a).1 ha) ((hm b).1 hb) hab.1 hab.2) h1
theorem wait_none {ps : List PayS} {bank : Int} (h : ¬ (0 ≤ bank ∧ bank < 4)) (hg : GoodPs ps) : queueM ps bank = [] := by
 cases hq : queueM ps bank with
 | nil => rfl
 | cons i r =>
   obtain ⟨_, p, hp, _, h2⟩ := queueM_mine (show i ∈ queueM ps bank by rw [hq]; simp)
   have := hg p (List.mem_of_getElem? hp)
   have ht := pay_transfer this
   exfalso
   apply h
   subst h2
   exact (transfer_lt ht).1
end Go.Proofs.YtmkboljfbmlebacGreat
