/- What the laws of this place stand on, part 13. Each part names its own conditions in what it states. -/
import Derived.Test.YtmkboljfbmlebacGreatQ12
namespace Go.Proofs.YtmkboljfbmlebacGreat
open Go.RowKit
set_option linter.unusedSimpArgs false
set_option linter.unusedVariables false
set_option maxRecDepth 100000
attribute [local irreducible] cC sC nC rC qw
set_option maxHeartbeats 1000000 in
theorem g_pay (F : Addr → Value → Prop) (h : H) (ps : List PayS) (a : ActS) (E : List (Nat × Obj)) (hE : ListE 67 6 (.slice h.pa h.pl h.pc) h.pl (flatC ps) E) (hl : ps.length = h.pl) (hgc : goodB h.core ps = true) : GivesV Tryz.prog 58 [.agg h.cells, .agg a.cells] F (E) (NextV 3 (payM h.core ps a)) := by
 refine givesV_of Tryz.func58 rfl Tryz.ntmps58 (by simp) (fun w K => ?_)
 have hpe := hE.pays hl
 have h24 : h.pl ≤ 24 := by have := (good_pays hgc).2.2; omega
 have hnx : 0 ≤ h.next ∧ h.next ≤ 1048576 := (good_iff.1 hgc).next
 refine r_seq (by kernel_rfl) (s_box (v := .agg _) rfl (fun b2 => ?_))
 refine s_box (v := .agg _) rfl (fun b3 => ?_)
 refine s_alloc (z := .agg zeroH.cells) (by kernel_rfl) (fun b4 => ?_)
 refine s_alloc (z := .agg (repC 0 0 (.slice none 0 0))) (by kernel_rfl) (fun b5 => ?_)
 refine s_nil (r_seq (by kernel_rfl) (s_val (v_fd 1 (by kernel_rfl) rfl) (s_val (v_ldI (by kernel_rfl) rfl (.there (.there .here)) rfl) (s_val (v_fd 2 (by kernel_rfl) rfl) (s_val (v_ldI (by kernel_rfl) rfl (.there (.there .here)) rfl) (s_val (v_fd 4 (by kernel_rfl) rfl) (s_val (v_ldI (by kernel_rfl) rfl (.there (.there .here)) rfl) (s_val (v_fd 3 (by kernel_rfl) rfl) (s_val (v_ldI (by kernel_rfl) rfl (.there (.there .here)) rfl) (s_val (v_fd 41 (by kernel_rfl) rfl) (s_val (v_ldI (by kernel_rfl) rfl (.there (.there (.there .here))) (H.at_next _)) (s_val (v_build (vs := [(0, .int .i64 _), (1, .int .i64 _), (2, .int .i64 _), (3, .int .i64 _), (4, .int .i64 _), (5, .int .i64 _)]) (cs := (PayS.cells ⟨a.a, a.b, a.n, a.c, 1, h.next⟩)) rfl (by kernel_rfl)) (s_alloc (z := zeroOf Tryz.prog 67) (by kernel_rfl) (fun b6 => ?_))))))))))))))
 refine s_storeA (m := 6) (by kernel_rfl) rfl rfl .here (by kernel_rfl) rfl (PayS.all1 _) (s_nil (c_seq (r_seq (by kernel_rfl) (s_val (v_loadA (m := 6) (by kernel_rfl) rfl .here rfl) (s_call (by kernel_rfl) (fun w hw => g_GoodPay _ w) (s_val (v_not rfl) (s_nil (c_condN rfl rfl (fun h21 => ?_) (fun h21 => ?_)))))))))
 · have q1 : goodPayB (newPay h.core a) = false := h21
   refine t_seq (k := 2) (by kernel_rfl) (by kernel_rfl) (fun w hw => hw.drew) (by kernel_rfl) (q_val (v_loadA (m := 42) (by kernel_rfl) rfl (.there (.there (.there (.there .here)))) (H.size _)) (q_call (by kernel_rfl) (fun w hw => g_failed _ w) (q_tail (s_storeA (m := 42) (by kernel_rfl) rfl rfl (.there (.there .here)) (H.size _) (H.size _) (H.all1 _) (s_storeA (m := 3) (by kernel_rfl) rfl rfl (.there .here) rfl rfl rep_all (s_nil (c_ret (n_ret (n_doneV2 (m := 42) (m' := 3) rfl (by decide) (by decide) rfl rfl (by kernel_rfl) (by kernel_rfl) (.there (.there .here)) (.there .here) (H.size _) rep_size (fun w1 hw => ?_))))))))))
   exact retV_own (Ep := E) (Ed := []) (hw.sub (List.Sublist.cons _ (List.Sublist.cons _ (List.Sublist.cons _ (List.Sublist.cons _ (List.Sublist.cons _ (List.Sublist.append (List.Sublist.refl _) (List.Sublist.refl _)))))))) (fun _ _ h => h) hpe.2.1 (fun _ hk => hpe.known hk) (listE_nil _ _) (by simp only [payM, h21, q1, cond_true, cond_false, Bool.not_true, Bool.not_false, Bool.or_true, Bool.true_or, Bool.or_false, Bool.false_or]; rfl)
 have q1 : goodPayB (newPay h.core a) = true := h21
 refine c_skip (n_then (c_seq (r_seq (by kernel_rfl) (s_val (v_fd 40 (by kernel_rfl) rfl) (s_val (v_load1 (v := .slice _ _ _) (by kernel_rfl) rfl (.there (.there (.there (.there .here)))) (H.at_pays _)) (s_val (v_lenS (T := 41) (m := 6) (by kernel_rfl) rfl rfl) (s_val (v_geq (k := .i64) rfl rfl) (s_val (v_mvB rfl) (s_split (s := 28) rfl (fun h28 => ?_) (fun h28 => ?_))))))))))
 · have q2 : decide (ps.length = 24) = true := decide_eq_true (by have := of_decide_eq_true h28; omega)
   refine s_pass rfl rfl h28 (s_pass rfl rfl h28 (s_pass rfl rfl h28 (s_val (v_pickT (v := .bool _) rfl h28 rfl) (s_nil (c_condTh rfl rfl rfl (t_seq (k := 2) (by kernel_rfl) (by kernel_rfl) (fun w hw => hw.drew) (by kernel_rfl) (q_val (v_loadA (m := 42) (by kernel_rfl) rfl (.there (.there (.there (.there .here)))) (H.size _)) (q_call (by kernel_rfl) (fun w hw => g_failed _ w) (q_tail (s_storeA (m := 42) (by kernel_rfl) rfl rfl (.there (.there .here)) (H.size _) (H.size _) (H.all1 _) (s_storeA (m := 3) (by kernel_rfl) rfl rfl (.there .here) rfl rfl rep_all (s_nil (c_ret (n_ret (n_doneV2 (m := 42) (m' := 3) rfl (by decide) (by decide) rfl rfl (by kernel_rfl) (by kernel_rfl) (.there (.there .here)) (.there .here) (H.size _) rep_size (fun w1 hw => ?_))))))))))))))))
   exact retV_own (Ep := E) (Ed := []) (hw.sub (List.Sublist.cons _ (List.Sublist.cons _ (List.Sublist.cons _ (List.Sublist.cons _ (List.Sublist.cons _ (List.Sublist.append (List.Sublist.refl _) (List.Sublist.refl _)))))))) (fun _ _ h => h) hpe.2.1 (fun _ hk => hpe.known hk) (listE_nil _ _) (by simp only [payM, h21, h28, q1, q2, cond_true, cond_false, Bool.not_true, Bool.not_false, Bool.or_true, Bool.true_or, Bool.or_false, Bool.false_or]; rfl)
 have q2 : decide (ps.length = 24) = false := decide_eq_false (by have := of_decide_eq_false h28; omega)
 refine s_want rfl rfl h28 (s_val (v_fd 41 (by kernel_rfl) rfl) (s_want rfl rfl h28 (s_val (v_ldI (by kernel_rfl) rfl (.there (.there (.there (.there .here)))) (H.at_next _)) (s_want rfl rfl h28 (s_val (v_geq (k := .i64) rfl rfl) (s_val (v_pickF (v := .bool _) rfl h28 rfl) (s_nil (c_cond rfl rfl (fun h32 => ?_) (fun h32 => ?_)))))))))
 · have q3 : decide (h.core.next = 1048576) = true := decide_eq_true (by have := of_decide_eq_true h32; show h.next = _; omega)
   refine t_seq (k := 2) (by kernel_rfl) (by kernel_rfl) (fun w hw => hw.drew) (by kernel_rfl) (q_val (v_loadA (m := 42) (by kernel_rfl) rfl (.there (.there (.there (.there .here)))) (H.size _)) (q_call (by kernel_rfl) (fun w hw => g_failed _ w) (q_tail (s_storeA (m := 42) (by kernel_rfl) rfl rfl (.there (.there .here)) (H.size _) (H.size _) (H.all1 _) (s_storeA (m := 3) (by kernel_rfl) rfl rfl (.there .here) rfl rfl rep_all (s_nil (c_ret (n_ret (n_doneV2 (m := 42) (m' := 3) rfl (by decide) (by decide) rfl rfl (by kernel_rfl) (by kernel_rfl) (.there (.there .here)) (.there .here) (H.size _) rep_size (fun w1 hw => ?_))))))))))
   exact retV_own (Ep := E) (Ed := []) (hw.sub (List.Sublist.cons _ (List.Sublist.cons _ (List.Sublist.cons _ (List.Sublist.cons _ (List.Sublist.cons _ (List.Sublist.append (List.Sublist.refl _) (List.Sublist.refl _)))))))) (fun _ _ h => h) hpe.2.1 (fun _ hk => hpe.known hk) (listE_nil _ _) (by simp only [payM, h21, h28, h32, q1, q2, q3, cond_true, cond_false, Bool.not_true, Bool.not_false, Bool.or_true, Bool.true_or, Bool.or_false, Bool.false_or]; rfl)
 have q3 : decide (h.core.next = 1048576) = false := decide_eq_false (by have := of_decide_eq_false h32; show ¬ h.next = _; omega)
 refine c_skip (n_then (r_seq (by kernel_rfl) (s_val (v_fd 40 (by kernel_rfl) rfl) (s_val (v_load1 (v := .slice _ _ _) (by kernel_rfl) rfl (.there (.there (.there (.there .here)))) (H.at_pays _)) (s_val (v_lenS (T := 41) (m := 6) (by kernel_rfl) rfl rfl) (s_val (v_asI rfl) (s_nil (c_weak (fun w hw => hw.perm (perm_front (A := [_, _, _, _, _]) (E := E))) (r_seq (by kernel_rfl) (s_val (v_fd 40 (by kernel_rfl) rfl) (s_val (v_load1 (v := .slice _ _ _) (by kernel_rfl) rfl (.app (.there (.there (.there (.there .here))))) (H.at_pays _)) (s_val (v_loadA (m := 6) (by kernel_rfl) rfl (.app .here) rfl) (s_build1 (v := .agg _) (e := 67) (m := 6) (by_ := 48) (by kernel_rfl) rfl rfl rfl (fill_one rfl) (fun b41 => ?_))))))))))))))
 refine s_push (e := 67) (m := 6) (by_ := 48) (by kernel_rfl) rfl rfl rfl rfl rfl hE rfl (PayS.all1 _) (by omega) (fun v42 E42 hE42 => ?_)
 obtain ⟨a42, c42, rfl⟩ := hE42.shape
 have hpe42 : PaysE a42 (h.pl + 1) c42 (ps ++ [newPay h.core a]) E42 := ListE.pays (by rw [← flatC_snoc]; exact hE42) (by simp [hl])
 refine s_val (v_fd 40 (by kernel_rfl) rfl) (s_store1 (v := _) (by kernel_rfl) rfl rfl (.app (.there (.there (.there (.there .here))))) (H.set_pays _) rfl (s_nil (r_seq (by kernel_rfl) (s_val (v_fd 41 (by kernel_rfl) rfl) (s_val (v_ldI (by kernel_rfl) rfl (.app (.there (.there (.there (.there .here))))) (H.at_next _)) (s_val (v_add rfl rfl (by (try dsimp only); omega)) (s_val (v_fd 41 (by kernel_rfl) rfl) (s_store1 (v := .int .i64 _) (by kernel_rfl) rfl rfl (.app (.there (.there (.there (.there .here))))) (H.set_next _) rfl (s_nil (r_seq (by kernel_rfl) (s_val (v_loadA (m := 42) (by kernel_rfl) rfl (.app (.there (.there (.there (.there .here))))) (H.size _)) (s_val (v_mvI rfl) (s_val (v_build (vs := [(1, .int .i64 _)]) (cs := repC 0 (h.pl : Int) (.slice none 0 0)) rfl (by kernel_rfl)) (s_storeA (m := 42) (by kernel_rfl) rfl rfl (.app (.there (.there .here))) (H.size _) (H.size _) (H.all1 _) (s_storeA (m := 3) (by kernel_rfl) rfl rfl (.app (.there .here)) rfl rfl rep_all (s_nil (c_ret (n_doneV2 (m := 42) (m' := 3) rfl (by decide) (by decide) rfl rfl (by kernel_rfl) (by kernel_rfl) (.app (.there (.there .here))) (.app (.there .here)) (H.size _) rep_size (fun w1 hw => ?_)))))))))))))))))))
 exact retV_own (Ep := E42) (Ed := []) (hw.sub (List.Sublist.append (List.Sublist.refl _) (List.Sublist.cons _ (List.Sublist.cons _ (List.Sublist.cons _ (List.Sublist.cons _ (List.Sublist.cons _ (List.Sublist.refl _)))))))) (fun _ _ h => h) hpe42.2.1 (fun _ hk => hpe42.known hk) (listE_nil _ _) (by simp only [payM, h21, h28, h32, q1, q2, q3, cond_true, cond_false, Bool.not_true, Bool.not_false, Bool.or_true, Bool.true_or, Bool.or_false, Bool.false_or]; rw [hl]; rfl)
set_option maxHeartbeats 1000000 in
theorem g_revoke (F : Addr → Value → Prop) (h : H) (ps : List PayS) (a : ActS) (E : List (Nat × Obj)) (hE : ListE 67 6 (.slice h.pa h.pl h.pc) h.pl (flatC ps) E) (hl : ps.length = h.pl) (hgc : goodB h.core ps = true) : GivesV Tryz.prog 59 [.agg h.cells, .agg a.cells] F (E) (NextV 3 (revokeM h.core ps a)) := by
 refine givesV_of Tryz.func59 rfl Tryz.ntmps59 (by simp) (fun w K => ?_)
 have hpe := hE.pays hl
 have h24 : h.pl ≤ 24 := by have := (good_pays hgc).2.2; omega
 have hnx : 0 ≤ h.next ∧ h.next ≤ 1048576 := (good_iff.1 hgc).next
 refine r_seq (by kernel_rfl) (s_box (v := .agg _) rfl (fun b2 => ?_))
 refine s_box (v := .agg _) rfl (fun b3 => ?_)
 refine s_alloc (z := .agg zeroH.cells) (by kernel_rfl) (fun b4 => ?_)
 refine s_alloc (z := .agg (repC 0 0 (.slice none 0 0))) (by kernel_rfl) (fun b5 => ?_)
 refine s_nil (c_seq (r_seq (by kernel_rfl) (s_val (v_loadA (m := 42) (by kernel_rfl) rfl (.there (.there (.there .here))) (H.size _)) (s_val (v_fd 1 (by kernel_rfl) rfl) (s_val (v_ldI (by kernel_rfl) rfl (.there (.there .here)) rfl) (s_call (by kernel_rfl) (fun w hw => g_isQueued h ps (a.a) w (hpe.known (at_known hw (fun _ hq => (List.mem_cons_of_mem _ (List.mem_cons_of_mem _ (List.mem_cons_of_mem _ (List.mem_cons_of_mem _ (List.mem_append_left _ hq)))))))) (by omega)) (s_val (v_not rfl) (s_nil (c_condN rfl rfl (fun h10 => ?_) (fun h10 => ?_))))))))))
 · have hset := waits_none h10
   refine t_seq (k := 2) (by kernel_rfl) (by kernel_rfl) (fun w hw => hw.drew) (by kernel_rfl) (q_val (v_loadA (m := 42) (by kernel_rfl) rfl (.there (.there (.there .here))) (H.size _)) (q_call (by kernel_rfl) (fun w hw => g_failed _ w) (q_tail (s_storeA (m := 42) (by kernel_rfl) rfl rfl (.there .here) (H.size _) (H.size _) (H.all1 _) (s_storeA (m := 3) (by kernel_rfl) rfl rfl .here rfl rfl rep_all (s_nil (c_ret (n_ret (n_doneV2 (m := 42) (m' := 3) rfl (by decide) (by decide) rfl rfl (by kernel_rfl) (by kernel_rfl) (.there .here) .here (H.size _) rep_size (fun w1 hw => ?_))))))))))
   exact retV_own (Ep := E) (Ed := []) (hw.sub (List.Sublist.cons _ (List.Sublist.cons _ (List.Sublist.cons _ (List.Sublist.cons _ (List.Sublist.append (List.Sublist.refl _) (List.Sublist.refl _))))))) (fun _ _ h => h) hpe.2.1 (fun _ hk => hpe.known hk) (listE_nil _ _) (by simp only [revokeM, h10, hset, cond_true, cond_false, Bool.not_true, Bool.not_false, Bool.or_true, Bool.true_or, Bool.or_false, Bool.false_or]; rfl)
 obtain ⟨p, hset⟩ := waits_some h10
 obtain ⟨hn0, hpn, hps⟩ := settles_spec hset
 have hlt : a.a.toNat < h.pl := by have := (List.getElem?_eq_some_iff.1 hpn).1; omega
 obtain ⟨bE, tE, csE, hpaE, rfl, hszE, hcsE⟩ := hpe.some (by omega)
 have hleE := hpe.2.1
 refine c_skip (n_then (r_seq (by kernel_rfl) (s_val (v_fd 40 (by kernel_rfl) rfl) (s_val (v_load1 (v := .slice _ _ _) (by kernel_rfl) rfl (.there (.there (.there .here))) (H.at_pays _)) (s_val (v_fd 1 (by kernel_rfl) rfl) (s_val (v_ldI (by kernel_rfl) rfl (.there (.there .here)) rfl) (s_val (v_idxS (size := 6) (k := .i64) (by kernel_rfl) (congrArg (fun a => Value.slice a h.pl h.pc) hpaE) rfl ⟨by omega, by omega⟩) (s_val (v_fd 4 (by kernel_rfl) rfl) (s_store1 (v := .int .i64 _) (by kernel_rfl) rfl rfl (.there (.there (.there (.there .here)))) ⟨by rw [hszE]; omega, rfl⟩ rfl (s_nil (r_seq (by kernel_rfl) (s_val (v_loadA (m := 42) (by kernel_rfl) rfl (.there (.there (.there .here))) (H.size _)) (s_val (v_build (vs := []) (cs := repC 0 0 (.slice none 0 0)) rfl (by kernel_rfl)) (s_storeA (m := 42) (by kernel_rfl) rfl rfl (.there .here) (H.size _) (H.size _) (H.all1 _) (s_storeA (m := 3) (by kernel_rfl) rfl rfl .here rfl rfl rep_all (s_nil (c_ret (n_doneV2 (m := 42) (m' := 3) rfl (by decide) (by decide) rfl rfl (by kernel_rfl) (by kernel_rfl) (.there .here) .here (H.size _) rep_size (fun w1 hw => ?_)))))))))))))))))))
 have hpe2 : PaysE h.pa h.pl h.pc _ _ := ⟨by rw [List.length_set]; exact hl, hleE, .inr ⟨bE, tE, _, hpaE, rfl, by simp only [Array.size_setIfInBounds]; exact hszE, hcsE.sta hpn 3⟩⟩
 exact retV_own (Ed := []) (hw.sub (List.Sublist.cons _ (List.Sublist.cons _ (List.Sublist.cons _ (List.Sublist.cons _ (List.Sublist.cons_cons _ (List.Sublist.refl _))))))) (fun _ _ h => h) hleE (fun _ hk => hpe2.known hk) (listE_nil _ _) (by simp only [revokeM, h10, hset, cond_true, cond_false, Bool.not_true, Bool.not_false, Bool.or_true, Bool.true_or, Bool.or_false, Bool.false_or]; rfl)
set_option maxHeartbeats 1000000 in
theorem g_class (F : Addr → Value → Prop) (h : H) (ps : List PayS) (a : ActS) (E : List (Nat × Obj)) (hE : ListE 67 6 (.slice h.pa h.pl h.pc) h.pl (flatC ps) E) (hl : ps.length = h.pl) (hgc : goodB h.core ps = true) : GivesV Tryz.prog 60 [.agg h.cells, .agg a.cells] F (E) (NextV 3 (classM h.core ps a)) := by
 refine givesV_of Tryz.func60 rfl Tryz.ntmps60 (by simp) (fun w K => ?_)
 have hpe := hE.pays hl
 have h24 : h.pl ≤ 24 := by have := (good_pays hgc).2.2; omega
 have hnx : 0 ≤ h.next ∧ h.next ≤ 1048576 := (good_iff.1 hgc).next
 refine r_seq (by kernel_rfl) (s_box (v := .agg _) rfl (fun b2 => ?_))
 refine s_box (v := .agg _) rfl (fun b3 => ?_)
 refine s_alloc (z := .agg zeroH.cells) (by kernel_rfl) (fun b4 => ?_)
 refine s_alloc (z := .agg (repC 0 0 (.slice none 0 0))) (by kernel_rfl) (fun b5 => ?_)
 refine s_nil (c_seq (r_seq (by kernel_rfl) (s_val (v_loadA (m := 42) (by kernel_rfl) rfl (.there (.there (.there .here))) (H.size _)) (s_val (v_fd 1 (by kernel_rfl) rfl) (s_val (v_ldI (by kernel_rfl) rfl (.there (.there .here)) rfl) (s_call (by kernel_rfl) (fun w hw => g_isQueued h ps (a.a) w (hpe.known (at_known hw (fun _ hq => (List.mem_cons_of_mem _ (List.mem_cons_of_mem _ (List.mem_cons_of_mem _ (List.mem_cons_of_mem _ (List.mem_append_left _ hq)))))))) (by omega)) (s_val (v_not rfl) (s_nil (c_condN rfl rfl (fun h10 => ?_) (fun h10 => ?_))))))))))
 · have hset := waits_none h10
   refine t_seq (k := 2) (by kernel_rfl) (by kernel_rfl) (fun w hw => hw.drew) (by kernel_rfl) (q_val (v_loadA (m := 42) (by kernel_rfl) rfl (.there (.there (.there .here))) (H.size _)) (q_call (by kernel_rfl) (fun w hw => g_failed _ w) (q_tail (s_storeA (m := 42) (by kernel_rfl) rfl rfl (.there .here) (H.size _) (H.size _) (H.all1 _) (s_storeA (m := 3) (by kernel_rfl) rfl rfl .here rfl rfl rep_all (s_nil (c_ret (n_ret (n_doneV2 (m := 42) (m' := 3) rfl (by decide) (by decide) rfl rfl (by kernel_rfl) (by kernel_rfl) (.there .here) .here (H.size _) rep_size (fun w1 hw => ?_))))))))))
   exact retV_own (Ep := E) (Ed := []) (hw.sub (List.Sublist.cons _ (List.Sublist.cons _ (List.Sublist.cons _ (List.Sublist.cons _ (List.Sublist.append (List.Sublist.refl _) (List.Sublist.refl _))))))) (fun _ _ h => h) hpe.2.1 (fun _ hk => hpe.known hk) (listE_nil _ _) (by simp only [classM, h10, hset, cond_true, cond_false, Bool.not_true, Bool.not_false, Bool.or_true, Bool.true_or, Bool.or_false, Bool.false_or]; rfl)
 obtain ⟨p, hset⟩ := waits_some h10
 obtain ⟨hn0, hpn, hps⟩ := settles_spec hset
 have hlt : a.a.toNat < h.pl := by have := (List.getElem?_eq_some_iff.1 hpn).1; omega
 obtain ⟨bE, tE, csE, hpaE, rfl, hszE, hcsE⟩ := hpe.some (by omega)
 have hleE := hpe.2.1
 refine c_skip (n_then (c_seq (r_seq (by kernel_rfl) (s_val (v_fd 3 (by kernel_rfl) rfl) (s_val (v_ldI (by kernel_rfl) rfl (.there (.there .here)) rfl) (s_call (by kernel_rfl) (fun w hw => g_withinB _ _ _ w) (s_val (v_not rfl) (s_nil (c_condN rfl rfl (fun h16 => ?_) (fun h16 => ?_))))))))))
 · refine t_seq (k := 2) (by kernel_rfl) (by kernel_rfl) (fun w hw => hw.drew) (by kernel_rfl) (q_val (v_loadA (m := 42) (by kernel_rfl) rfl (.there (.there (.there .here))) (H.size _)) (q_call (by kernel_rfl) (fun w hw => g_failed _ w) (q_tail (s_storeA (m := 42) (by kernel_rfl) rfl rfl (.there .here) (H.size _) (H.size _) (H.all1 _) (s_storeA (m := 3) (by kernel_rfl) rfl rfl .here rfl rfl rep_all (s_nil (c_ret (n_ret (n_doneV2 (m := 42) (m' := 3) rfl (by decide) (by decide) rfl rfl (by kernel_rfl) (by kernel_rfl) (.there .here) .here (H.size _) rep_size (fun w1 hw => ?_))))))))))
   exact retV_own (Ep := [(bE, .cells csE tE (0, 0))]) (Ed := []) (hw.sub (List.Sublist.cons _ (List.Sublist.cons _ (List.Sublist.cons _ (List.Sublist.cons _ (List.Sublist.cons_cons _ (List.Sublist.refl _))))))) (fun _ _ h => h) hpe.2.1 (fun _ hk => hpe.known hk) (listE_nil _ _) (by simp only [classM, h10, h16, hset, cond_true, cond_false, Bool.not_true, Bool.not_false, Bool.or_true, Bool.true_or, Bool.or_false, Bool.false_or]; rfl)
 refine c_skip (n_then (c_seq (r_seq (by kernel_rfl) (s_val (v_fd 41 (by kernel_rfl) rfl) (s_val (v_ldI (by kernel_rfl) rfl (.there (.there (.there .here))) (H.at_next _)) (s_val (v_geq (k := .i64) rfl rfl) (s_nil (c_cond rfl rfl (fun h21 => ?_) (fun h21 => ?_)))))))))
 · have q3 : decide (h.core.next = 1048576) = true := decide_eq_true (by have := of_decide_eq_true h21; show h.next = _; omega)
   refine t_seq (k := 2) (by kernel_rfl) (by kernel_rfl) (fun w hw => hw.drew) (by kernel_rfl) (q_val (v_loadA (m := 42) (by kernel_rfl) rfl (.there (.there (.there .here))) (H.size _)) (q_call (by kernel_rfl) (fun w hw => g_failed _ w) (q_tail (s_storeA (m := 42) (by kernel_rfl) rfl rfl (.there .here) (H.size _) (H.size _) (H.all1 _) (s_storeA (m := 3) (by kernel_rfl) rfl rfl .here rfl rfl rep_all (s_nil (c_ret (n_ret (n_doneV2 (m := 42) (m' := 3) rfl (by decide) (by decide) rfl rfl (by kernel_rfl) (by kernel_rfl) (.there .here) .here (H.size _) rep_size (fun w1 hw => ?_))))))))))
   exact retV_own (Ep := [(bE, .cells csE tE (0, 0))]) (Ed := []) (hw.sub (List.Sublist.cons _ (List.Sublist.cons _ (List.Sublist.cons _ (List.Sublist.cons _ (List.Sublist.cons_cons _ (List.Sublist.refl _))))))) (fun _ _ h => h) hpe.2.1 (fun _ hk => hpe.known hk) (listE_nil _ _) (by simp only [classM, h10, h16, h21, hset, q3, cond_true, cond_false, Bool.not_true, Bool.not_false, Bool.or_true, Bool.true_or, Bool.or_false, Bool.false_or]; rfl)
 have q3 : decide (h.core.next = 1048576) = false := decide_eq_false (by have := of_decide_eq_false h21; show ¬ h.next = _; omega)
 refine c_skip (n_then (r_seq (by kernel_rfl) (s_val (v_fd 40 (by kernel_rfl) rfl) (s_val (v_load1 (v := .slice _ _ _) (by kernel_rfl) rfl (.there (.there (.there .here))) (H.at_pays _)) (s_val (v_fd 1 (by kernel_rfl) rfl) (s_val (v_ldI (by kernel_rfl) rfl (.there (.there .here)) rfl) (s_val (v_fd 3 (by kernel_rfl) rfl) (s_val (v_ldI (by kernel_rfl) rfl (.there (.there .here)) rfl) (s_val (v_idxS (size := 6) (k := .i64) (by kernel_rfl) (congrArg (fun a => Value.slice a h.pl h.pc) hpaE) rfl ⟨by omega, by omega⟩) (s_val (v_fd 3 (by kernel_rfl) rfl) (s_store1 (v := .int .i64 _) (by kernel_rfl) rfl rfl (.there (.there (.there (.there .here)))) ⟨by rw [hszE]; omega, rfl⟩ rfl (s_nil (r_seq (by kernel_rfl) (s_val (v_fd 40 (by kernel_rfl) rfl) (s_val (v_load1 (v := .slice _ _ _) (by kernel_rfl) rfl (.there (.there (.there .here))) (H.at_pays _)) (s_val (v_fd 1 (by kernel_rfl) rfl) (s_val (v_ldI (by kernel_rfl) rfl (.there (.there .here)) rfl) (s_val (v_fd 41 (by kernel_rfl) rfl) (s_val (v_ldI (by kernel_rfl) rfl (.there (.there (.there .here))) (H.at_next _)) ?_)))))))))))))))))))
 refine s_val (v_idxS (size := 6) (k := .i64) (by kernel_rfl) (congrArg (fun a => Value.slice a h.pl h.pc) hpaE) rfl ⟨by omega, by omega⟩) (s_val (v_fd 5 (by kernel_rfl) rfl) (s_store1 (v := .int .i64 _) (by kernel_rfl) rfl rfl (.there (.there (.there (.there .here)))) ⟨by rw [Array.size_setIfInBounds, hszE]; omega, rfl⟩ rfl (s_nil (r_seq (by kernel_rfl) (s_val (v_fd 41 (by kernel_rfl) rfl) (s_val (v_ldI (by kernel_rfl) rfl (.there (.there (.there .here))) (H.at_next _)) (s_val (v_add rfl rfl (by (try dsimp only); omega)) (s_val (v_fd 41 (by kernel_rfl) rfl) (s_store1 (v := .int .i64 _) (by kernel_rfl) rfl rfl (.there (.there (.there .here))) (H.set_next _) rfl (s_nil (r_seq (by kernel_rfl) (s_val (v_loadA (m := 42) (by kernel_rfl) rfl (.there (.there (.there .here))) (H.size _)) (s_val (v_build (vs := []) (cs := repC 0 0 (.slice none 0 0)) rfl (by kernel_rfl)) (s_storeA (m := 42) (by kernel_rfl) rfl rfl (.there .here) (H.size _) (H.size _) (H.all1 _) (s_storeA (m := 3) (by kernel_rfl) rfl rfl .here rfl rfl rep_all (s_nil (c_ret (n_doneV2 (m := 42) (m' := 3) rfl (by decide) (by decide) rfl rfl (by kernel_rfl) (by kernel_rfl) (.there .here) .here (H.size _) rep_size (fun w1 hw => ?_)))))))))))))))))))
 have hpe2 : PaysE h.pa h.pl h.pc _ _ := ⟨by rw [List.length_set]; exact hl, hleE, .inr ⟨bE, tE, _, hpaE, rfl, by simp only [Array.size_setIfInBounds]; exact hszE, hcsE.clsseq hpn a.c h.next⟩⟩
 exact retV_own (Ed := []) (hw.sub (List.Sublist.cons _ (List.Sublist.cons _ (List.Sublist.cons _ (List.Sublist.cons _ (List.Sublist.cons_cons _ (List.Sublist.refl _))))))) (fun _ _ h => h) hleE (fun _ hk => hpe2.known hk) (listE_nil _ _) (by simp only [classM, h10, h16, h21, hset, q3, cond_true, cond_false, Bool.not_true, Bool.not_false, Bool.or_true, Bool.true_or, Bool.or_false, Bool.false_or]; rfl)
set_option maxHeartbeats 1000000 in
theorem g_credit (F : Addr → Value → Prop) (h : H) (ps : List PayS) (a : ActS) (E : List (Nat × Obj)) (hE : ListE 67 6 (.slice h.pa h.pl h.pc) h.pl (flatC ps) E) (hl : ps.length = h.pl) (hgc : goodB h.core ps = true) : GivesV Tryz.prog 61 [.agg h.cells, .agg a.cells] F (E) (NextV 3 (creditM h.core ps a)) := by
 refine givesV_of Tryz.func61 rfl Tryz.ntmps61 (by simp) (fun w K => ?_)
 have hpe := hE.pays hl
 have h24 : h.pl ≤ 24 := by have := (good_pays hgc).2.2; omega
 have hnx : 0 ≤ h.next ∧ h.next ≤ 1048576 := (good_iff.1 hgc).next
 refine r_seq (by kernel_rfl) (s_box (v := .agg _) rfl (fun b2 => ?_))
 refine s_box (v := .agg _) rfl (fun b3 => ?_)
 refine s_alloc (z := .agg zeroH.cells) (by kernel_rfl) (fun b4 => ?_)
 refine s_alloc (z := .agg (repC 0 0 (.slice none 0 0))) (by kernel_rfl) (fun b5 => ?_)
 refine s_nil (c_seq (r_seq (by kernel_rfl) (s_val (v_fd 1 (by kernel_rfl) rfl) (s_val (v_ldI (by kernel_rfl) rfl (.there (.there .here)) rfl) (s_call (by kernel_rfl) (fun w hw => g_isBankB _ w) (s_val (v_not rfl) (s_val (v_mvB rfl) (s_splitN (s := 10) rfl (fun h10 => ?_) (fun h10 => ?_)))))))))
 · refine s_pass rfl rfl (congrArg not h10) (s_pass rfl rfl (congrArg not h10) (s_pass rfl rfl (congrArg not h10) (s_pass rfl rfl (congrArg not h10) (s_val (v_pickT (v := .bool _) rfl (congrArg not h10) rfl) (s_nil (c_condTh rfl rfl rfl (t_seq (k := 2) (by kernel_rfl) (by kernel_rfl) (fun w hw => hw.drew) (by kernel_rfl) (q_val (v_loadA (m := 42) (by kernel_rfl) rfl (.there (.there (.there .here))) (H.size _)) (q_call (by kernel_rfl) (fun w hw => g_failed _ w) (q_tail (s_storeA (m := 42) (by kernel_rfl) rfl rfl (.there .here) (H.size _) (H.size _) (H.all1 _) (s_storeA (m := 3) (by kernel_rfl) rfl rfl .here rfl rfl rep_all (s_nil (c_ret (n_ret (n_doneV2 (m := 42) (m' := 3) rfl (by decide) (by decide) rfl rfl (by kernel_rfl) (by kernel_rfl) (.there .here) .here (H.size _) rep_size (fun w1 hw => ?_)))))))))))))))))
   exact retV_own (Ep := E) (Ed := []) (hw.sub (List.Sublist.cons _ (List.Sublist.cons _ (List.Sublist.cons _ (List.Sublist.cons _ (List.Sublist.append (List.Sublist.refl _) (List.Sublist.refl _))))))) (fun _ _ h => h) hpe.2.1 (fun _ hk => hpe.known hk) (listE_nil _ _) (by simp only [creditM, h10, cond_true, cond_false, Bool.not_true, Bool.not_false, Bool.or_true, Bool.true_or, Bool.or_false, Bool.false_or]; rfl)
 refine s_want rfl rfl (congrArg not h10) (s_val (v_fd 4 (by kernel_rfl) rfl) (s_want rfl rfl (congrArg not h10) (s_val (v_ldI (by kernel_rfl) rfl (.there (.there .here)) rfl) (s_want rfl rfl (congrArg not h10) (s_call (by kernel_rfl) (fun w hw => g_withinB _ _ _ w) (s_want rfl rfl (congrArg not h10) (s_val (v_not rfl) (s_val (v_pickF (v := .bool _) rfl (congrArg not h10) rfl) (s_nil (c_condN rfl rfl (fun h15 => ?_) (fun h15 => ?_)))))))))))
 · refine t_seq (k := 2) (by kernel_rfl) (by kernel_rfl) (fun w hw => hw.drew) (by kernel_rfl) (q_val (v_loadA (m := 42) (by kernel_rfl) rfl (.there (.there (.there .here))) (H.size _)) (q_call (by kernel_rfl) (fun w hw => g_failed _ w) (q_tail (s_storeA (m := 42) (by kernel_rfl) rfl rfl (.there .here) (H.size _) (H.size _) (H.all1 _) (s_storeA (m := 3) (by kernel_rfl) rfl rfl .here rfl rfl rep_all (s_nil (c_ret (n_ret (n_doneV2 (m := 42) (m' := 3) rfl (by decide) (by decide) rfl rfl (by kernel_rfl) (by kernel_rfl) (.there .here) .here (H.size _) rep_size (fun w1 hw => ?_))))))))))
   exact retV_own (Ep := E) (Ed := []) (hw.sub (List.Sublist.cons _ (List.Sublist.cons _ (List.Sublist.cons _ (List.Sublist.cons _ (List.Sublist.append (List.Sublist.refl _) (List.Sublist.refl _))))))) (fun _ _ h => h) hpe.2.1 (fun _ hk => hpe.known hk) (listE_nil _ _) (by simp only [creditM, h10, h15, cond_true, cond_false, Bool.not_true, Bool.not_false, Bool.or_true, Bool.true_or, Bool.or_false, Bool.false_or]; rfl)
 have hwa := within_iff.1 h10
 have hwn := within_iff.1 h15
 refine c_skip (n_then (r_seq (by kernel_rfl) (s_val (v_fd 1 (by kernel_rfl) rfl) (s_val (v_ldI (by kernel_rfl) rfl (.there (.there .here)) rfl) (s_val (v_fd 4 (by kernel_rfl) rfl) (s_val (v_ldI (by kernel_rfl) rfl (.there (.there .here)) rfl) (s_val (v_fd 0 (by kernel_rfl) rfl) (s_val (v_ixA 2 (by kernel_rfl) rfl rfl (by omega)) (s_val (v_fd 1 (by kernel_rfl) rfl) (s_store1 (v := .int .i64 _) (by kernel_rfl) rfl rfl (.there (.there (.there .here))) (H.set_cred _ (by omega)) rfl (s_nil (r_seq (by kernel_rfl) (s_val (v_loadA (m := 42) (by kernel_rfl) rfl (.there (.there (.there .here))) (H.size _)) (s_val (v_build (vs := []) (cs := repC 0 0 (.slice none 0 0)) rfl (by kernel_rfl)) (s_storeA (m := 42) (by kernel_rfl) rfl rfl (.there .here) (H.size _) (H.size _) (H.all1 _) (s_storeA (m := 3) (by kernel_rfl) rfl rfl .here rfl rfl rep_all (s_nil (c_ret (n_doneV2 (m := 42) (m' := 3) rfl (by decide) (by decide) rfl rfl (by kernel_rfl) (by kernel_rfl) (.there .here) .here (H.size _) rep_size (fun w1 hw => ?_))))))))))))))))))))
 exact retV_own (Ep := E) (Ed := []) (hw.sub (List.Sublist.cons _ (List.Sublist.cons _ (List.Sublist.cons _ (List.Sublist.cons _ (List.Sublist.append (List.Sublist.refl _) (List.Sublist.refl _))))))) (fun _ _ h => h) hpe.2.1 (fun _ hk => hpe.known hk) (listE_nil _ _) (by simp only [creditM, h10, h15, cond_true, cond_false, Bool.not_true, Bool.not_false, Bool.or_true, Bool.true_or, Bool.or_false, Bool.false_or]; rfl)
set_option maxHeartbeats 1000000 in
theorem g_limit (F : Addr → Value → Prop) (h : H) (ps : List PayS) (a : ActS) (E : List (Nat × Obj)) (hE : ListE 67 6 (.slice h.pa h.pl h.pc) h.pl (flatC ps) E) (hl : ps.length = h.pl) (hgc : goodB h.core ps = true) : GivesV Tryz.prog 62 [.agg h.cells, .agg a.cells] F (E) (NextV 3 (limitM h.core ps a)) := by
 refine givesV_of Tryz.func62 rfl Tryz.ntmps62 (by simp) (fun w K => ?_)
 have hpe := hE.pays hl
 have h24 : h.pl ≤ 24 := by have := (good_pays hgc).2.2; omega
 have hnx : 0 ≤ h.next ∧ h.next ≤ 1048576 := (good_iff.1 hgc).next
 refine r_seq (by kernel_rfl) (s_box (v := .agg _) rfl (fun b2 => ?_))
 refine s_box (v := .agg _) rfl (fun b3 => ?_)
 refine s_alloc (z := .agg zeroH.cells) (by kernel_rfl) (fun b4 => ?_)
 refine s_alloc (z := .agg (repC 0 0 (.slice none 0 0))) (by kernel_rfl) (fun b5 => ?_)
 refine s_nil (c_seq (r_seq (by kernel_rfl) (s_val (v_fd 1 (by kernel_rfl) rfl) (s_val (v_ldI (by kernel_rfl) rfl (.there (.there .here)) rfl) (s_call (by kernel_rfl) (fun w hw => g_isBankB _ w) (s_val (v_not rfl) (s_val (v_mvB rfl) (s_splitN (s := 10) rfl (fun h10 => ?_) (fun h10 => ?_)))))))))
 · refine s_pass rfl rfl (congrArg not h10) (s_pass rfl rfl (congrArg not h10) (s_pass rfl rfl (congrArg not h10) (s_pass rfl rfl (congrArg not h10) (s_val (v_pickT (v := .bool _) rfl (congrArg not h10) rfl) (s_val (v_mvB rfl) (s_pass (g := true) rfl rfl rfl (s_pass (g := true) rfl rfl rfl (s_pass (g := true) rfl rfl rfl (s_pass (g := true) rfl rfl rfl (s_pass (g := true) rfl rfl rfl (s_val (v_pickT (v := .bool _) rfl rfl rfl) (s_val (v_mvB rfl) (s_pass (g := true) rfl rfl rfl (s_pass (g := true) rfl rfl rfl (s_pass (g := true) rfl rfl rfl (s_pass (g := true) rfl rfl rfl (s_val (v_pickT (v := .bool _) rfl rfl rfl) (s_nil (c_condTh rfl rfl rfl ?_)))))))))))))))))))
   refine t_seq (k := 2) (by kernel_rfl) (by kernel_rfl) (fun w hw => hw.drew) (by kernel_rfl) (q_val (v_loadA (m := 42) (by kernel_rfl) rfl (.there (.there (.there .here))) (H.size _)) (q_call (by kernel_rfl) (fun w hw => g_failed _ w) (q_tail (s_storeA (m := 42) (by kernel_rfl) rfl rfl (.there .here) (H.size _) (H.size _) (H.all1 _) (s_storeA (m := 3) (by kernel_rfl) rfl rfl .here rfl rfl rep_all (s_nil (c_ret (n_ret (n_doneV2 (m := 42) (m' := 3) rfl (by decide) (by decide) rfl rfl (by kernel_rfl) (by kernel_rfl) (.there .here) .here (H.size _) rep_size (fun w1 hw => ?_))))))))))
   exact retV_own (Ep := E) (Ed := []) (hw.sub (List.Sublist.cons _ (List.Sublist.cons _ (List.Sublist.cons _ (List.Sublist.cons _ (List.Sublist.append (List.Sublist.refl _) (List.Sublist.refl _))))))) (fun _ _ h => h) hpe.2.1 (fun _ hk => hpe.known hk) (listE_nil _ _) (by simp only [limitM, h10, cond_true, cond_false, Bool.not_true, Bool.not_false, Bool.or_true, Bool.true_or, Bool.or_false, Bool.false_or]; rfl)
 refine s_want rfl rfl (congrArg not h10) (s_val (v_fd 2 (by kernel_rfl) rfl) (s_want rfl rfl (congrArg not h10) (s_val (v_ldI (by kernel_rfl) rfl (.there (.there .here)) rfl) (s_want rfl rfl (congrArg not h10) (s_call (by kernel_rfl) (fun w hw => g_isBankB _ w) (s_want rfl rfl (congrArg not h10) (s_val (v_not rfl) (s_val (v_pickF (v := .bool _) rfl (congrArg not h10) rfl) (s_val (v_mvB rfl) (s_splitN (s := 16) rfl (fun h16 => ?_) (fun h16 => ?_)))))))))))
 · refine s_pass rfl rfl (congrArg not h16) (s_pass rfl rfl (congrArg not h16) (s_pass rfl rfl (congrArg not h16) (s_pass rfl rfl (congrArg not h16) (s_pass rfl rfl (congrArg not h16) (s_val (v_pickT (v := .bool _) rfl (congrArg not h16) rfl) (s_val (v_mvB rfl) (s_pass (g := true) rfl rfl rfl (s_pass (g := true) rfl rfl rfl (s_pass (g := true) rfl rfl rfl (s_pass (g := true) rfl rfl rfl (s_val (v_pickT (v := .bool _) rfl rfl rfl) (s_nil (c_condTh rfl rfl rfl (t_seq (k := 2) (by kernel_rfl) (by kernel_rfl) (fun w hw => hw.drew) (by kernel_rfl) (q_val (v_loadA (m := 42) (by kernel_rfl) rfl (.there (.there (.there .here))) (H.size _)) (q_call (by kernel_rfl) (fun w hw => g_failed _ w) (q_tail (s_storeA (m := 42) (by kernel_rfl) rfl rfl (.there .here) (H.size _) (H.size _) (H.all1 _) (s_storeA (m := 3) (by kernel_rfl) rfl rfl .here rfl rfl rep_all ?_)))))))))))))))))))
   refine s_nil (c_ret (n_ret (n_doneV2 (m := 42) (m' := 3) rfl (by decide) (by decide) rfl rfl (by kernel_rfl) (by kernel_rfl) (.there .here) .here (H.size _) rep_size (fun w1 hw => ?_))))
   exact retV_own (Ep := E) (Ed := []) (hw.sub (List.Sublist.cons _ (List.Sublist.cons _ (List.Sublist.cons _ (List.Sublist.cons _ (List.Sublist.append (List.Sublist.refl _) (List.Sublist.refl _))))))) (fun _ _ h => h) hpe.2.1 (fun _ hk => hpe.known hk) (listE_nil _ _) (by simp only [limitM, h10, h16, cond_true, cond_false, Bool.not_true, Bool.not_false, Bool.or_true, Bool.true_or, Bool.or_false, Bool.false_or]; rfl)
 refine s_want rfl rfl (congrArg not h16) (s_val (v_fd 1 (by kernel_rfl) rfl) (s_want rfl rfl (congrArg not h16) (s_val (v_ldI (by kernel_rfl) rfl (.there (.there .here)) rfl) (s_want rfl rfl (congrArg not h16) (s_val (v_fd 2 (by kernel_rfl) rfl) (s_want rfl rfl (congrArg not h16) (s_val (v_ldI (by kernel_rfl) rfl (.there (.there .here)) rfl) (s_want rfl rfl (congrArg not h16) (s_val (v_eql (k := .i64) rfl rfl) (s_val (v_pickF (v := .bool _) rfl (congrArg not h16) rfl) (s_val (v_mvB rfl) (s_split (s := 23) rfl (fun h23 => ?_) (fun h23 => ?_)))))))))))))
 · refine s_pass rfl rfl h23 (s_pass rfl rfl h23 (s_pass rfl rfl h23 (s_pass rfl rfl h23 (s_val (v_pickT (v := .bool _) rfl h23 rfl) (s_nil (c_condTh rfl rfl rfl (t_seq (k := 2) (by kernel_rfl) (by kernel_rfl) (fun w hw => hw.drew) (by kernel_rfl) (q_val (v_loadA (m := 42) (by kernel_rfl) rfl (.there (.there (.there .here))) (H.size _)) (q_call (by kernel_rfl) (fun w hw => g_failed _ w) (q_tail (s_storeA (m := 42) (by kernel_rfl) rfl rfl (.there .here) (H.size _) (H.size _) (H.all1 _) (s_storeA (m := 3) (by kernel_rfl) rfl rfl .here rfl rfl rep_all (s_nil (c_ret (n_ret (n_doneV2 (m := 42) (m' := 3) rfl (by decide) (by decide) rfl rfl (by kernel_rfl) (by kernel_rfl) (.there .here) .here (H.size _) rep_size (fun w1 hw => ?_)))))))))))))))))
   exact retV_own (Ep := E) (Ed := []) (hw.sub (List.Sublist.cons _ (List.Sublist.cons _ (List.Sublist.cons _ (List.Sublist.cons _ (List.Sublist.append (List.Sublist.refl _) (List.Sublist.refl _))))))) (fun _ _ h => h) hpe.2.1 (fun _ hk => hpe.known hk) (listE_nil _ _) (by simp only [limitM, h10, h16, h23, cond_true, cond_false, Bool.not_true, Bool.not_false, Bool.or_true, Bool.true_or, Bool.or_false, Bool.false_or]; rfl)
 refine s_want rfl rfl h23 (s_val (v_fd 4 (by kernel_rfl) rfl) (s_want rfl rfl h23 (s_val (v_ldI (by kernel_rfl) rfl (.there (.there .here)) rfl) (s_want rfl rfl h23 (s_call (by kernel_rfl) (fun w hw => g_withinB _ _ _ w) (s_want rfl rfl h23 (s_val (v_not rfl) (s_val (v_pickF (v := .bool _) rfl h23 rfl) (s_nil (c_condN rfl rfl (fun h28 => ?_) (fun h28 => ?_)))))))))))
 · refine t_seq (k := 2) (by kernel_rfl) (by kernel_rfl) (fun w hw => hw.drew) (by kernel_rfl) (q_val (v_loadA (m := 42) (by kernel_rfl) rfl (.there (.there (.there .here))) (H.size _)) (q_call (by kernel_rfl) (fun w hw => g_failed _ w) (q_tail (s_storeA (m := 42) (by kernel_rfl) rfl rfl (.there .here) (H.size _) (H.size _) (H.all1 _) (s_storeA (m := 3) (by kernel_rfl) rfl rfl .here rfl rfl rep_all (s_nil (c_ret (n_ret (n_doneV2 (m := 42) (m' := 3) rfl (by decide) (by decide) rfl rfl (by kernel_rfl) (by kernel_rfl) (.there .here) .here (H.size _) rep_size (fun w1 hw => ?_))))))))))
   exact retV_own (Ep := E) (Ed := []) (hw.sub (List.Sublist.cons _ (List.Sublist.cons _ (List.Sublist.cons _ (List.Sublist.cons _ (List.Sublist.append (List.Sublist.refl _) (List.Sublist.refl _))))))) (fun _ _ h => h) hpe.2.1 (fun _ hk => hpe.known hk) (listE_nil _ _) (by simp only [limitM, h10, h16, h23, h28, cond_true, cond_false, Bool.not_true, Bool.not_false, Bool.or_true, Bool.true_or, Bool.or_false, Bool.false_or]; rfl)
 have hwa := within_iff.1 h10
 have hwb := within_iff.1 h16
 have hwn := within_iff.1 h28
 refine c_skip (n_then (t_seq (k := 9) (by kernel_rfl) (by kernel_rfl) (fun w hw => hw.drew) (by kernel_rfl) (q_val (v_fd 1 (by kernel_rfl) rfl) (q_val (v_ldI (by kernel_rfl) rfl (.there (.there .here)) rfl) (q_val (v_fd 2 (by kernel_rfl) rfl) (q_val (v_ldI (by kernel_rfl) rfl (.there (.there .here)) rfl) (q_val (v_fd 4 (by kernel_rfl) rfl) (q_val (v_ldI (by kernel_rfl) rfl (.there (.there .here)) rfl) (q_val (v_fd 24 (by kernel_rfl) rfl) (q_val (v_ixA 4 (by kernel_rfl) rfl rfl (by omega)) (q_val (v_ixA 1 (by kernel_rfl) rfl rfl (by omega)) (q_tail (s_store1 (v := .int .i64 _) (by kernel_rfl) rfl rfl (.there (.there (.there .here))) (H.set_lim _ (by omega) (by omega)) rfl (s_nil (r_seq (by kernel_rfl) (s_val (v_loadA (m := 42) (by kernel_rfl) rfl (.there (.there (.there .here))) (H.size _)) (s_val (v_build (vs := []) (cs := repC 0 0 (.slice none 0 0)) rfl (by kernel_rfl)) (s_storeA (m := 42) (by kernel_rfl) rfl rfl (.there .here) (H.size _) (H.size _) (H.all1 _) (s_storeA (m := 3) (by kernel_rfl) rfl rfl .here rfl rfl rep_all ?_)))))))))))))))))))
 refine s_nil (c_ret (n_doneV2 (m := 42) (m' := 3) rfl (by decide) (by decide) rfl rfl (by kernel_rfl) (by kernel_rfl) (.there .here) .here (H.size _) rep_size (fun w1 hw => ?_)))
 exact retV_own (Ep := E) (Ed := []) (hw.sub (List.Sublist.cons _ (List.Sublist.cons _ (List.Sublist.cons _ (List.Sublist.cons _ (List.Sublist.append (List.Sublist.refl _) (List.Sublist.refl _))))))) (fun _ _ h => h) hpe.2.1 (fun _ hk => hpe.known hk) (listE_nil _ _) (by simp only [limitM, h10, h16, h23, h28, cond_true, cond_false, Bool.not_true, Bool.not_false, Bool.or_true, Bool.true_or, Bool.or_false, Bool.false_or]; rfl)
set_option maxHeartbeats 1000000 in
theorem g_fund (F : Addr → Value → Prop) (h : H) (ps : List PayS) (a : ActS) (E : List (Nat × Obj)) (hE : ListE 67 6 (.slice h.pa h.pl h.pc) h.pl (flatC ps) E) (hl : ps.length = h.pl) (hgc : goodB h.core ps = true) : GivesV Tryz.prog 63 [.agg h.cells, .agg a.cells] F (E) (NextV 3 (fundM h.core ps a)) := by
 refine givesV_of Tryz.func63 rfl Tryz.ntmps63 (by simp) (fun w K => ?_)
 have hpe := hE.pays hl
 have h24 : h.pl ≤ 24 := by have := (good_pays hgc).2.2; omega
 have hnx : 0 ≤ h.next ∧ h.next ≤ 1048576 := (good_iff.1 hgc).next
 refine r_seq (by kernel_rfl) (s_box (v := .agg _) rfl (fun b2 => ?_))
 refine s_box (v := .agg _) rfl (fun b3 => ?_)
 refine s_alloc (z := .agg zeroH.cells) (by kernel_rfl) (fun b4 => ?_)
 refine s_alloc (z := .agg (repC 0 0 (.slice none 0 0))) (by kernel_rfl) (fun b5 => ?_)
 refine s_nil (c_seq (r_seq (by kernel_rfl) (s_val (v_fd 1 (by kernel_rfl) rfl) (s_val (v_ldI (by kernel_rfl) rfl (.there (.there .here)) rfl) (s_call (by kernel_rfl) (fun w hw => g_isBankB _ w) (s_val (v_not rfl) (s_val (v_mvB rfl) (s_splitN (s := 10) rfl (fun h10 => ?_) (fun h10 => ?_)))))))))
 · refine s_pass rfl rfl (congrArg not h10) (s_pass rfl rfl (congrArg not h10) (s_pass rfl rfl (congrArg not h10) (s_pass rfl rfl (congrArg not h10) (s_val (v_pickT (v := .bool _) rfl (congrArg not h10) rfl) (s_nil (c_condTh rfl rfl rfl (t_seq (k := 2) (by kernel_rfl) (by kernel_rfl) (fun w hw => hw.drew) (by kernel_rfl) (q_val (v_loadA (m := 42) (by kernel_rfl) rfl (.there (.there (.there .here))) (H.size _)) (q_call (by kernel_rfl) (fun w hw => g_failed _ w) (q_tail (s_storeA (m := 42) (by kernel_rfl) rfl rfl (.there .here) (H.size _) (H.size _) (H.all1 _) (s_storeA (m := 3) (by kernel_rfl) rfl rfl .here rfl rfl rep_all (s_nil (c_ret (n_ret (n_doneV2 (m := 42) (m' := 3) rfl (by decide) (by decide) rfl rfl (by kernel_rfl) (by kernel_rfl) (.there .here) .here (H.size _) rep_size (fun w1 hw => ?_)))))))))))))))))
   exact retV_own (Ep := E) (Ed := []) (hw.sub (List.Sublist.cons _ (List.Sublist.cons _ (List.Sublist.cons _ (List.Sublist.cons _ (List.Sublist.append (List.Sublist.refl _) (List.Sublist.refl _))))))) (fun _ _ h => h) hpe.2.1 (fun _ hk => hpe.known hk) (listE_nil _ _) (by simp only [fundM, h10, cond_true, cond_false, Bool.not_true, Bool.not_false, Bool.or_true, Bool.true_or, Bool.or_false, Bool.false_or]; rfl)
 refine s_want rfl rfl (congrArg not h10) (s_val (v_fd 4 (by kernel_rfl) rfl) (s_want rfl rfl (congrArg not h10) (s_val (v_ldI (by kernel_rfl) rfl (.there (.there .here)) rfl) (s_want rfl rfl (congrArg not h10) (s_call (by kernel_rfl) (fun w hw => g_withinB _ _ _ w) (s_want rfl rfl (congrArg not h10) (s_val (v_not rfl) (s_val (v_pickF (v := .bool _) rfl (congrArg not h10) rfl) (s_nil (c_condN rfl rfl (fun h15 => ?_) (fun h15 => ?_)))))))))))
 · refine t_seq (k := 2) (by kernel_rfl) (by kernel_rfl) (fun w hw => hw.drew) (by kernel_rfl) (q_val (v_loadA (m := 42) (by kernel_rfl) rfl (.there (.there (.there .here))) (H.size _)) (q_call (by kernel_rfl) (fun w hw => g_failed _ w) (q_tail (s_storeA (m := 42) (by kernel_rfl) rfl rfl (.there .here) (H.size _) (H.size _) (H.all1 _) (s_storeA (m := 3) (by kernel_rfl) rfl rfl .here rfl rfl rep_all (s_nil (c_ret (n_ret (n_doneV2 (m := 42) (m' := 3) rfl (by decide) (by decide) rfl rfl (by kernel_rfl) (by kernel_rfl) (.there .here) .here (H.size _) rep_size (fun w1 hw => ?_))))))))))
   exact retV_own (Ep := E) (Ed := []) (hw.sub (List.Sublist.cons _ (List.Sublist.cons _ (List.Sublist.cons _ (List.Sublist.cons _ (List.Sublist.append (List.Sublist.refl _) (List.Sublist.refl _))))))) (fun _ _ h => h) hpe.2.1 (fun _ hk => hpe.known hk) (listE_nil _ _) (by simp only [fundM, h10, h15, cond_true, cond_false, Bool.not_true, Bool.not_false, Bool.or_true, Bool.true_or, Bool.or_false, Bool.false_or]; rfl)
 have hwa := within_iff.1 h10
 have hwn := within_iff.1 h15
 have hH : -1099511627776 ≤ h.has a.a ∧ h.has a.a ≤ 1099511627776 := (good_iff.1 hgc).house.has a.a ⟨by omega, by omega⟩
 have hCr : 0 ≤ h.cred a.a ∧ h.cred a.a ≤ 1000000 := (good_iff.1 hgc).house.cred a.a ⟨by omega, by omega⟩
 refine c_skip (n_then (c_seq (r_seq (by kernel_rfl) (s_val (v_fd 1 (by kernel_rfl) rfl) (s_val (v_ldI (by kernel_rfl) rfl (.there (.there .here)) rfl) (s_val (v_fd 0 (by kernel_rfl) rfl) (s_val (v_ixA 2 (by kernel_rfl) rfl rfl (by omega)) (s_val (v_fd 0 (by kernel_rfl) rfl) (s_val (v_ldI (by kernel_rfl) rfl (.there (.there (.there .here))) (H.at_has _ (by omega))) (s_val (v_geq (k := .i64) rfl rfl) (s_nil (c_cond rfl rfl (fun h24 => ?_) (fun h24 => ?_)))))))))))))
 · have q4 : decide (549755813888 ≤ h.core.has a.a) = true := h24
   refine t_seq (k := 2) (by kernel_rfl) (by kernel_rfl) (fun w hw => hw.drew) (by kernel_rfl) (q_val (v_loadA (m := 42) (by kernel_rfl) rfl (.there (.there (.there .here))) (H.size _)) (q_call (by kernel_rfl) (fun w hw => g_failed _ w) (q_tail (s_storeA (m := 42) (by kernel_rfl) rfl rfl (.there .here) (H.size _) (H.size _) (H.all1 _) (s_storeA (m := 3) (by kernel_rfl) rfl rfl .here rfl rfl rep_all (s_nil (c_ret (n_ret (n_doneV2 (m := 42) (m' := 3) rfl (by decide) (by decide) rfl rfl (by kernel_rfl) (by kernel_rfl) (.there .here) .here (H.size _) rep_size (fun w1 hw => ?_))))))))))
   exact retV_own (Ep := E) (Ed := []) (hw.sub (List.Sublist.cons _ (List.Sublist.cons _ (List.Sublist.cons _ (List.Sublist.cons _ (List.Sublist.append (List.Sublist.refl _) (List.Sublist.refl _))))))) (fun _ _ h => h) hpe.2.1 (fun _ hk => hpe.known hk) (listE_nil _ _) (by simp only [fundM, h10, h15, h24, q4, cond_true, cond_false, Bool.not_true, Bool.not_false, Bool.or_true, Bool.true_or, Bool.or_false, Bool.false_or]; rfl)
 have q4 : decide (549755813888 ≤ h.core.has a.a) = false := h24
 refine c_skip (n_then (t_seq (k := 12) (by kernel_rfl) (by kernel_rfl) (fun w hw => hw.drew) (by kernel_rfl) (q_val (v_fd 1 (by kernel_rfl) rfl) (q_val (v_ldI (by kernel_rfl) rfl (.there (.there .here)) rfl) (q_val (v_fd 0 (by kernel_rfl) rfl) (q_val (v_ixA 2 (by kernel_rfl) rfl rfl (by omega)) (q_val (v_fd 0 (by kernel_rfl) rfl) (q_val (v_ldI (by kernel_rfl) rfl (.there (.there (.there .here))) (H.at_has _ (by omega))) (q_val (v_fd 4 (by kernel_rfl) rfl) (q_val (v_ldI (by kernel_rfl) rfl (.there (.there .here)) rfl) (q_val (v_add rfl rfl (by (try dsimp only); omega)) (q_val (v_fd 0 (by kernel_rfl) rfl) (q_val (v_ixA 2 (by kernel_rfl) rfl rfl (by omega)) (q_val (v_fd 0 (by kernel_rfl) rfl) (q_tail (s_store1 (v := .int .i64 _) (by kernel_rfl) rfl rfl (.there (.there (.there .here))) (H.set_has _ (by omega)) rfl (s_nil (r_seq (by kernel_rfl) (s_val (v_loadA (m := 42) (by kernel_rfl) rfl (.there (.there (.there .here))) (H.size _)) ?_)))))))))))))))))))
 refine s_val (v_build (vs := []) (cs := repC 0 0 (.slice none 0 0)) rfl (by kernel_rfl)) (s_storeA (m := 42) (by kernel_rfl) rfl rfl (.there .here) (H.size _) (H.size _) (H.all1 _) (s_storeA (m := 3) (by kernel_rfl) rfl rfl .here rfl rfl rep_all (s_nil (c_ret (n_doneV2 (m := 42) (m' := 3) rfl (by decide) (by decide) rfl rfl (by kernel_rfl) (by kernel_rfl) (.there .here) .here (H.size _) rep_size (fun w1 hw => ?_))))))
 exact retV_own (Ep := E) (Ed := []) (hw.sub (List.Sublist.cons _ (List.Sublist.cons _ (List.Sublist.cons _ (List.Sublist.cons _ (List.Sublist.append (List.Sublist.refl _) (List.Sublist.refl _))))))) (fun _ _ h => h) hpe.2.1 (fun _ hk => hpe.known hk) (listE_nil _ _) (by simp only [fundM, h10, h15, h24, q4, cond_true, cond_false, Bool.not_true, Bool.not_false, Bool.or_true, Bool.true_or, Bool.or_false, Bool.false_or]; rfl)
set_option maxHeartbeats 1000000 in
theorem g_spend (F : Addr → Value → Prop) (h : H) (ps : List PayS) (a : ActS) (E : List (Nat × Obj)) (hE : ListE 67 6 (.slice h.pa h.pl h.pc) h.pl (flatC ps) E) (hl : ps.length = h.pl) (hgc : goodB h.core ps = true) : GivesV Tryz.prog 64 [.agg h.cells, .agg a.cells] F (E) (NextV 3 (spendM h.core ps a)) := by
 refine givesV_of Tryz.func64 rfl Tryz.ntmps64 (by simp) (fun w K => ?_)
 have hpe := hE.pays hl
 have h24 : h.pl ≤ 24 := by have := (good_pays hgc).2.2; omega
 have hnx : 0 ≤ h.next ∧ h.next ≤ 1048576 := (good_iff.1 hgc).next
 refine r_seq (by kernel_rfl) (s_box (v := .agg _) rfl (fun b2 => ?_))
 refine s_box (v := .agg _) rfl (fun b3 => ?_)
 refine s_alloc (z := .agg zeroH.cells) (by kernel_rfl) (fun b4 => ?_)
 refine s_alloc (z := .agg (repC 0 0 (.slice none 0 0))) (by kernel_rfl) (fun b5 => ?_)
 refine s_nil (c_seq (r_seq (by kernel_rfl) (s_val (v_fd 1 (by kernel_rfl) rfl) (s_val (v_ldI (by kernel_rfl) rfl (.there (.there .here)) rfl) (s_call (by kernel_rfl) (fun w hw => g_isBankB _ w) (s_val (v_not rfl) (s_val (v_mvB rfl) (s_splitN (s := 10) rfl (fun h10 => ?_) (fun h10 => ?_)))))))))
 · refine s_pass rfl rfl (congrArg not h10) (s_pass rfl rfl (congrArg not h10) (s_pass rfl rfl (congrArg not h10) (s_pass rfl rfl (congrArg not h10) (s_val (v_pickT (v := .bool _) rfl (congrArg not h10) rfl) (s_nil (c_condTh rfl rfl rfl (t_seq (k := 2) (by kernel_rfl) (by kernel_rfl) (fun w hw => hw.drew) (by kernel_rfl) (q_val (v_loadA (m := 42) (by kernel_rfl) rfl (.there (.there (.there .here))) (H.size _)) (q_call (by kernel_rfl) (fun w hw => g_failed _ w) (q_tail (s_storeA (m := 42) (by kernel_rfl) rfl rfl (.there .here) (H.size _) (H.size _) (H.all1 _) (s_storeA (m := 3) (by kernel_rfl) rfl rfl .here rfl rfl rep_all (s_nil (c_ret (n_ret (n_doneV2 (m := 42) (m' := 3) rfl (by decide) (by decide) rfl rfl (by kernel_rfl) (by kernel_rfl) (.there .here) .here (H.size _) rep_size (fun w1 hw => ?_)))))))))))))))))
   exact retV_own (Ep := E) (Ed := []) (hw.sub (List.Sublist.cons _ (List.Sublist.cons _ (List.Sublist.cons _ (List.Sublist.cons _ (List.Sublist.append (List.Sublist.refl _) (List.Sublist.refl _))))))) (fun _ _ h => h) hpe.2.1 (fun _ hk => hpe.known hk) (listE_nil _ _) (by simp only [spendM, h10, cond_true, cond_false, Bool.not_true, Bool.not_false, Bool.or_true, Bool.true_or, Bool.or_false, Bool.false_or]; rfl)
 refine s_want rfl rfl (congrArg not h10) (s_val (v_fd 4 (by kernel_rfl) rfl) (s_want rfl rfl (congrArg not h10) (s_val (v_ldI (by kernel_rfl) rfl (.there (.there .here)) rfl) (s_want rfl rfl (congrArg not h10) (s_call (by kernel_rfl) (fun w hw => g_withinB _ _ _ w) (s_want rfl rfl (congrArg not h10) (s_val (v_not rfl) (s_val (v_pickF (v := .bool _) rfl (congrArg not h10) rfl) (s_nil (c_condN rfl rfl (fun h15 => ?_) (fun h15 => ?_)))))))))))
 · refine t_seq (k := 2) (by kernel_rfl) (by kernel_rfl) (fun w hw => hw.drew) (by kernel_rfl) (q_val (v_loadA (m := 42) (by kernel_rfl) rfl (.there (.there (.there .here))) (H.size _)) (q_call (by kernel_rfl) (fun w hw => g_failed _ w) (q_tail (s_storeA (m := 42) (by kernel_rfl) rfl rfl (.there .here) (H.size _) (H.size _) (H.all1 _) (s_storeA (m := 3) (by kernel_rfl) rfl rfl .here rfl rfl rep_all (s_nil (c_ret (n_ret (n_doneV2 (m := 42) (m' := 3) rfl (by decide) (by decide) rfl rfl (by kernel_rfl) (by kernel_rfl) (.there .here) .here (H.size _) rep_size (fun w1 hw => ?_))))))))))
   exact retV_own (Ep := E) (Ed := []) (hw.sub (List.Sublist.cons _ (List.Sublist.cons _ (List.Sublist.cons _ (List.Sublist.cons _ (List.Sublist.append (List.Sublist.refl _) (List.Sublist.refl _))))))) (fun _ _ h => h) hpe.2.1 (fun _ hk => hpe.known hk) (listE_nil _ _) (by simp only [spendM, h10, h15, cond_true, cond_false, Bool.not_true, Bool.not_false, Bool.or_true, Bool.true_or, Bool.or_false, Bool.false_or]; rfl)
 have hwa := within_iff.1 h10
 have hwn := within_iff.1 h15
 have hH : -1099511627776 ≤ h.has a.a ∧ h.has a.a ≤ 1099511627776 := (good_iff.1 hgc).house.has a.a ⟨by omega, by omega⟩
 have hCr : 0 ≤ h.cred a.a ∧ h.cred a.a ≤ 1000000 := (good_iff.1 hgc).house.cred a.a ⟨by omega, by omega⟩
 have hlf : leftM h a.a = h.has a.a + h.cred a.a := left_eq ⟨by omega, by omega⟩ ⟨by omega, by omega⟩ hCr
 refine c_skip (n_then (c_seq (d_seq (by kernel_rfl) (by kernel_rfl) (fun w hw => hw.drew) (by kernel_rfl) (q_val (v_loadA (m := 42) (by kernel_rfl) rfl (.there (.there (.there .here))) (H.size _)) (q_val (v_fd 1 (by kernel_rfl) rfl) (q_val (v_ldI (by kernel_rfl) rfl (.there (.there .here)) rfl) (q_call (by kernel_rfl) (fun w hw => g_Left _ _ w) (q_val (v_fd 4 (by kernel_rfl) rfl) (q_val (v_ldI (by kernel_rfl) rfl (.there (.there .here)) rfl) (q_val (v_lsI rfl rfl) (q_nil (c_cond rfl rfl (fun h24 => ?_) (fun h24 => ?_)))))))))))))
 · have q5 : decide (h.core.has a.a + h.core.cred a.a < a.n) = true := by rw [hlf] at h24; exact h24
   refine t_seq (k := 2) (by kernel_rfl) (by kernel_rfl) (fun w hw => hw.drew) (by kernel_rfl) (q_val (v_loadA (m := 42) (by kernel_rfl) rfl (.there (.there (.there .here))) (H.size _)) (q_call (by kernel_rfl) (fun w hw => g_failed _ w) (q_tail (s_storeA (m := 42) (by kernel_rfl) rfl rfl (.there .here) (H.size _) (H.size _) (H.all1 _) (s_storeA (m := 3) (by kernel_rfl) rfl rfl .here rfl rfl rep_all (s_nil (c_ret (n_ret (n_doneV2 (m := 42) (m' := 3) rfl (by decide) (by decide) rfl rfl (by kernel_rfl) (by kernel_rfl) (.there .here) .here (H.size _) rep_size (fun w1 hw => ?_))))))))))
   exact retV_own (Ep := E) (Ed := []) (hw.sub (List.Sublist.cons _ (List.Sublist.cons _ (List.Sublist.cons _ (List.Sublist.cons _ (List.Sublist.append (List.Sublist.refl _) (List.Sublist.refl _))))))) (fun _ _ h => h) hpe.2.1 (fun _ hk => hpe.known hk) (listE_nil _ _) (by simp only [spendM, h10, h15, h24, q5, cond_true, cond_false, Bool.not_true, Bool.not_false, Bool.or_true, Bool.true_or, Bool.or_false, Bool.false_or]; rfl)
 have q5 : decide (h.core.has a.a + h.core.cred a.a < a.n) = false := by rw [hlf] at h24; exact h24
 refine c_skip (n_then (t_seq (k := 12) (by kernel_rfl) (by kernel_rfl) (fun w hw => hw.drew) (by kernel_rfl) (q_val (v_fd 1 (by kernel_rfl) rfl) (q_val (v_ldI (by kernel_rfl) rfl (.there (.there .here)) rfl) (q_val (v_fd 0 (by kernel_rfl) rfl) (q_val (v_ixA 2 (by kernel_rfl) rfl rfl (by omega)) (q_val (v_fd 0 (by kernel_rfl) rfl) (q_val (v_ldI (by kernel_rfl) rfl (.there (.there (.there .here))) (H.at_has _ (by omega))) (q_val (v_fd 4 (by kernel_rfl) rfl) (q_val (v_ldI (by kernel_rfl) rfl (.there (.there .here)) rfl) (q_val (v_sub rfl rfl (by (try dsimp only); omega)) (q_val (v_fd 0 (by kernel_rfl) rfl) (q_val (v_ixA 2 (by kernel_rfl) rfl rfl (by omega)) (q_val (v_fd 0 (by kernel_rfl) rfl) (q_tail (s_store1 (v := .int .i64 _) (by kernel_rfl) rfl rfl (.there (.there (.there .here))) (H.set_has _ (by omega)) rfl (s_nil (r_seq (by kernel_rfl) (s_val (v_loadA (m := 42) (by kernel_rfl) rfl (.there (.there (.there .here))) (H.size _)) ?_)))))))))))))))))))
 refine s_val (v_build (vs := []) (cs := repC 0 0 (.slice none 0 0)) rfl (by kernel_rfl)) (s_storeA (m := 42) (by kernel_rfl) rfl rfl (.there .here) (H.size _) (H.size _) (H.all1 _) (s_storeA (m := 3) (by kernel_rfl) rfl rfl .here rfl rfl rep_all (s_nil (c_ret (n_doneV2 (m := 42) (m' := 3) rfl (by decide) (by decide) rfl rfl (by kernel_rfl) (by kernel_rfl) (.there .here) .here (H.size _) rep_size (fun w1 hw => ?_))))))
 exact retV_own (Ep := E) (Ed := []) (hw.sub (List.Sublist.cons _ (List.Sublist.cons _ (List.Sublist.cons _ (List.Sublist.cons _ (List.Sublist.append (List.Sublist.refl _) (List.Sublist.refl _))))))) (fun _ _ h => h) hpe.2.1 (fun _ hk => hpe.known hk) (listE_nil _ _) (by simp only [spendM, h10, h15, h24, q5, cond_true, cond_false, Bool.not_true, Bool.not_false, Bool.or_true, Bool.true_or, Bool.or_false, Bool.false_or]; rfl)
set_option maxHeartbeats 1000000 in
theorem g_untie (F : Addr → Value → Prop) (h : H) (ps : List PayS) (a : ActS) (E : List (Nat × Obj)) (hE : ListE 67 6 (.slice h.pa h.pl h.pc) h.pl (flatC ps) E) (hl : ps.length = h.pl) (hgc : goodB h.core ps = true) : GivesV Tryz.prog 65 [.agg h.cells, .agg a.cells] F (E) (NextV 3 (untieN h.core ps)) := by
 refine givesV_of Tryz.func65 rfl Tryz.ntmps65 (by simp) (fun w K => ?_)
 have hpe := hE.pays hl
 have h24 : h.pl ≤ 24 := by have := (good_pays hgc).2.2; omega
 have hnx : 0 ≤ h.next ∧ h.next ≤ 1048576 := (good_iff.1 hgc).next
 refine r_seq (by kernel_rfl) (s_box (v := .agg _) rfl (fun b2 => ?_))
 refine s_box (v := .agg _) rfl (fun b3 => ?_)
 refine s_alloc (z := .agg zeroH.cells) (by kernel_rfl) (fun b4 => ?_)
 refine s_alloc (z := .agg (repC 0 0 (.slice none 0 0))) (by kernel_rfl) (fun b5 => ?_)
 refine s_nil (r_seq (by kernel_rfl) (s_val (v_loadA (m := 42) (by kernel_rfl) rfl (.there (.there (.there .here))) (H.size _)) (s_callX (by kernel_rfl) (sweepX_mono _ _ _ _) (fun w hw => g_UntieX h ps w (hpe.known (at_known hw (fun _ hq => (List.mem_cons_of_mem _ (List.mem_cons_of_mem _ (List.mem_cons_of_mem _ (List.mem_cons_of_mem _ (List.mem_append_left _ hq)))))))) (by omega) hpe.2.1 hgc) (fun F9 v9 E9 hF9 hR9 => ?_))))
 obtain ⟨v10, v11, rfl, ⟨h10, rfl, hco, hlc10, hpo⟩, hE9⟩ := hR9
 obtain ⟨a11, c11, rfl⟩ := hE9.shape
 refine s_val (v_move (v := .tuple _) rfl) (s_val (v_extract rfl rfl) (s_val (v_extract rfl rfl) (s_storeA (m := 42) (by kernel_rfl) rfl rfl (.app (.there (.there (.there .here)))) (H.size _) (H.size _) (H.all1 _) (s_val (v_assign (v := .slice _ _ _) rfl) (s_nil (r_seq (by kernel_rfl) (s_val (v_loadA (m := 42) (by kernel_rfl) rfl (.app (.there (.there (.there .here)))) (H.size _)) (s_val (v_move (v := .slice _ _ _) rfl) (s_val (v_lenS (T := 29) (m := 1) (by kernel_rfl) rfl rfl) (s_val (v_move (v := .slice _ _ _) rfl) (s_val (v_build (vs := [(1, .int .i64 _), (2, .slice _ _ _)]) (cs := repC 0 ((untieM h.core ps).xs.length : Int) (.slice a11 (untieM h.core ps).xs.length c11)) rfl (by kernel_rfl)) (s_storeA (m := 42) (by kernel_rfl) rfl rfl (.app (.there .here)) (H.size _) (H.size _) (H.all1 _) (s_storeA (m := 3) (by kernel_rfl) rfl rfl (.app .here) rfl rfl rep_all (s_nil (c_ret (n_doneV2 (m := 42) (m' := 3) rfl (by decide) (by decide) rfl rfl (by kernel_rfl) (by kernel_rfl) (.app (.there .here)) (.app .here) (H.size _) rep_size (fun w1 hw => ?_)))))))))))))))))
 rcases hpo with q | q
 · exact retV_own (ps := (untieM h.core ps).ps) (Ep := E) (Ed := E9) ((hw.sub (List.Sublist.append (List.Sublist.refl _) (List.Sublist.cons _ (List.Sublist.cons _ (List.Sublist.cons _ (List.Sublist.cons _ (List.Sublist.append (List.Sublist.refl _) (List.Sublist.refl _)))))))).perm (perm_front (A := E9) (E := E))) hF9 hlc10 (fun _ hk => by rw [q.1, q.2.1, q.2.2]; exact hpe.known hk) hE9 (by rw [hco]; rfl)
 · exact retV_known (hw.sub (List.Sublist.append (List.Sublist.refl _) (List.Sublist.cons _ (List.Sublist.cons _ (List.Sublist.cons _ (List.Sublist.cons _ (List.Sublist.trans (List.Sublist.refl _) (List.sublist_append_right _ _)))))))) hF9 q hlc10 hE9 (by rw [hco]; rfl)
set_option maxHeartbeats 1000000 in
theorem g_closeAll (F : Addr → Value → Prop) (h : H) (ps : List PayS) (a : ActS) (E : List (Nat × Obj)) (hE : ListE 67 6 (.slice h.pa h.pl h.pc) h.pl (flatC ps) E) (hl : ps.length = h.pl) (hgc : goodB h.core ps = true) : GivesV Tryz.prog 66 [.agg h.cells, .agg a.cells] F (E) (NextV 3 (closeM h.core ps)) := by
 refine givesV_of Tryz.func66 rfl Tryz.ntmps66 (by simp) (fun w K => ?_)
 have hpe := hE.pays hl
 have h24 : h.pl ≤ 24 := by have := (good_pays hgc).2.2; omega
 have hnx : 0 ≤ h.next ∧ h.next ≤ 1048576 := (good_iff.1 hgc).next
 refine r_seq (by kernel_rfl) (s_box (v := .agg _) rfl (fun b2 => ?_))
 refine s_box (v := .agg _) rfl (fun b3 => ?_)
 refine s_alloc (z := .agg zeroH.cells) (by kernel_rfl) (fun b4 => ?_)
 refine s_alloc (z := .agg (repC 0 0 (.slice none 0 0))) (by kernel_rfl) (fun b5 => ?_)
 refine s_nil (r_seq (by kernel_rfl) (s_val (v_asI rfl) (s_nil (c_seq (r_seq (by kernel_rfl) (s_val (v_fd 40 (by kernel_rfl) rfl) (s_val (v_load1 (v := .slice _ _ _) (by kernel_rfl) rfl (.there (.there (.there .here))) (H.at_pays _)) (s_val (v_lenS (T := 41) (m := 6) (by kernel_rfl) rfl rfl) (s_val (v_mvI rfl) (s_nil (c_block (c_loop (σ := Nat × List (Nat × Obj)) (fun ((k, E1) : Nat × List (Nat × Obj)) f => ∃ g, (k ≤ h.pl ∧ PaysE h.pa h.pl h.pc (goneTo ps k) E1) ∧ f = (upd (upd (upd (upd (upd (upd (upd g 2 (.pointer (some ⟨b2, 0, none⟩))) 3 (.pointer (some ⟨b3, 0, none⟩))) 4 (.pointer (some ⟨b4, 0, none⟩))) 5 (.pointer (some ⟨b5, 0, none⟩))) 6 (I (cnt (ps.take k) : Int))) 10 (I h.pl)) 11 (I k))) (fun ((k, E1) : Nat × List (Nat × Obj)) => Has w F ((b5, .cells ((repC 0 0 (.slice none 0 0))) 31) :: (b4, .cells zeroH.cells 43) :: (b3, .cells a.cells 34) :: (b2, .cells h.cells 43) :: (E1 ++ K))) (fun ((k, E1) : Nat × List (Nat × Obj)) => h.pl - k) (0, E) ⟨_, ⟨Nat.zero_le _, by rw [goneTo_zero]; exact hpe⟩, live7 rfl rfl rfl rfl rfl rfl rfl⟩ (fun w hw => hw) ?_))))))))))))
 rintro ⟨k, E1⟩ _ ⟨g, ⟨hkl, hPE⟩, rfl⟩
 refine r_seq (by kernel_rfl) (s_val (v_lsI rfl rfl) (s_nil (c_seq (c_condR rfl rfl (fun h12 => ?_) (fun h12 => ?_)))))
 · have hk0 : k = h.pl := by have := of_decide_eq_false h12; omega
   refine c_exit (n_exit (n_exit (n_bhere (n_then (r_seq (by kernel_rfl) (s_val (v_loadA (m := 42) (by kernel_rfl) rfl (.there (.there (.there .here))) (H.size _)) (s_val (v_mvI rfl) (s_val (v_build (vs := [(1, .int .i64 _)]) (cs := repC 0 (cnt (ps.take k) : Int) (.slice none 0 0)) rfl (by kernel_rfl)) (s_storeA (m := 42) (by kernel_rfl) rfl rfl (.there .here) (H.size _) (H.size _) (H.all1 _) (s_storeA (m := 3) (by kernel_rfl) rfl rfl .here rfl rfl rep_all (s_nil (c_ret (n_doneV2 (m := 42) (m' := 3) rfl (by decide) (by decide) rfl rfl (by kernel_rfl) (by kernel_rfl) (.there .here) .here (H.size _) rep_size (fun w1 hw => ?_))))))))))))))
   exact retV_own (Ep := E1) (Ed := []) (hw.sub (List.Sublist.cons _ (List.Sublist.cons _ (List.Sublist.cons _ (List.Sublist.cons _ (List.Sublist.append (List.Sublist.refl _) (List.Sublist.refl _))))))) (fun _ _ h => h) hPE.2.1 (fun _ hk => hPE.known hk) (listE_nil _ _) (by rw [hk0, ← hl, goneTo_all, List.take_length]; rfl)
 have hk0 := of_decide_eq_true h12
 obtain ⟨p, hpk, hpt⟩ : ∃ p, ps[k]? = some p ∧ True := ⟨ps[k]'(by omega), List.getElem?_eq_getElem (by omega), trivial⟩
 have hgk := goneTo_at hpk
 have hct := cnt_le ps k
 have hstep := cnt_take hpk
 refine c_skip (n_then (c_seq (c_block (r_seq (by kernel_rfl) (s_val (v_mvI rfl) (s_val (v_asI rfl) (s_nil (r_seq (by kernel_rfl) (s_val (v_loadA (m := 42) (by kernel_rfl) rfl (.there (.there (.there .here))) (H.size _)) (s_val (v_mvI rfl) (s_call (by kernel_rfl) (fun w hw => g_isQueued h (goneTo ps k) ((k : Int)) w (hPE.known (at_known hw (fun _ hq => (List.mem_cons_of_mem _ (List.mem_cons_of_mem _ (List.mem_cons_of_mem _ (List.mem_cons_of_mem _ (List.mem_append_left _ hq)))))))) (by omega)) (s_nil (c_condR rfl rfl (fun h16 => ?_) (fun h16 => ?_))))))))))))))
 · refine c_skip (n_bnormal (n_then (r_list (by kernel_rfl) (s_val (v_add rfl rfl (by omega)) (s_val (v_mvI rfl) (s_end (n_round (s := (k, E1)) (k + 1, E1) ⟨_, ⟨by omega, by rw [goneTo_no hpk ((waits_in (by omega) (by simpa using hgk)).trans h16)]; exact hPE⟩, live7 rfl rfl rfl rfl (congrArg I (by rw [hstep, (waits_in (by omega) (by simpa using hgk)).trans h16]; simp)) rfl rfl⟩ (fun _ hw => hw) (by dsimp only; omega))))))))
 have hsp : decide (p.sta = 1) = true := (waits_in (by omega) (by simpa using hgk)).trans h16
 obtain ⟨bE, tE, csE, hpaE, rfl, hszE, hcsE⟩ := hPE.some (by omega)
 have hleE := hPE.2.1
 refine r_seq (by kernel_rfl) (s_val (v_fd 40 (by kernel_rfl) rfl) (s_val (v_load1 (v := .slice _ _ _) (by kernel_rfl) rfl (.there (.there (.there .here))) (H.at_pays _)) (s_val (v_mvI rfl) (s_val (v_idxS (size := 6) (k := .i64) (by kernel_rfl) (congrArg (fun a => Value.slice a h.pl h.pc) hpaE) rfl ⟨by omega, by omega⟩) (s_val (v_fd 4 (by kernel_rfl) rfl) (s_store1 (v := .int .i64 _) (by kernel_rfl) rfl rfl (.there (.there (.there (.there .here)))) ⟨by rw [hszE]; omega, rfl⟩ rfl (s_nil (r_list (by kernel_rfl) (s_val (v_mvI rfl) (s_val (v_add rfl rfl (by omega)) (s_val (v_asI rfl) (s_end (n_bnormal (n_then (r_list (by kernel_rfl) (s_val (v_add rfl rfl (by omega)) (s_val (v_mvI rfl) (s_end (n_round (s := (k, [(bE, .cells csE tE (0, 0))])) (k + 1, [(bE, .cells (csE.setIfInBounds (0 + k * 6 + 4) (I 3)) tE (0, 0))]) ⟨_, ⟨by omega, by rw [goneTo_len]; exact hl, hleE, .inr ⟨bE, tE, _, hpaE, rfl, by rw [Array.size_setIfInBounds]; exact hszE, by rw [goneTo_step hpk, goneP_yes hsp]; exact hcsE.sta hgk 3⟩⟩, live7 rfl rfl rfl rfl (congrArg I (by rw [hstep, hsp]; simp)) rfl rfl⟩ (fun _ hw => hw) (by dsimp only; omega))))))))))))))))))))
end Go.Proofs.YtmkboljfbmlebacGreat
namespace Go.Proofs.YtmkboljfbmlebacGreat
open Go.RowKit
set_option linter.unusedSimpArgs false
set_option linter.unusedVariables false
set_option maxRecDepth 100000
attribute [local irreducible] cC sC nC rC qw
theorem g_sweepBank (h : H) (ps : List PayS) (bank nr : Int) (w : World) (hp : PaysIn (At w) h.pa h.pl ps) (hb : h.pl * 48 ≤ 281474976710656) (hlc : h.pl ≤ h.pc) (hsa : SeqsApart ps) (hgp : GoodPs ps) (hbk : 0 ≤ bank ∧ bank < 4) (hnn : 0 ≤ nr) (hnr0 : nr + ps.length ≤ 1000000) (hnear : NearG nr h.core) : GivesF Tryz.prog 89 [.agg h.cells, I bank] w (SweepF h ps (drain bank ⟨h.core, ps, []⟩)) := by
 have hnr : nr + (queueM ps bank).length ≤ 1000000 := by have := queueTo_len ps bank ps.length; unfold queueM; omega
 refine givesF_of Tryz.func89 rfl Tryz.ntmps89 (by simp) (r_seq (by kernel_rfl) (s_box (v := .agg _) rfl (fun b2 => ?_)))
 refine s_alloc (z := .agg zeroH.cells) (by kernel_rfl) (fun b4 => ?_)
 refine s_val (v_assign (v := .slice _ _ _) rfl) (s_nil (r_seq (by kernel_rfl) (s_val (v_loadA (m := 42) (by kernel_rfl) rfl (.there .here) (H.size _)) (s_val (v_mvI rfl) (s_callG (by kernel_rfl) (room_mono _) (fun w hw => (g_Of h ps bank w (hp.at hw) hb hlc hsa (.inl hbk)).toF (fun F v E hk hl => room_of_list hl hk)) (fun F12 v12 hF12 hR12 => ?_))))))
 obtain ⟨a12, c12, rfl, hc12, ia12⟩ := hR12
 refine s_val (v_assign (v := .slice _ _ _) rfl) (s_nil (c_seq (r_seq (by kernel_rfl) (s_val (v_move (v := .slice _ _ _) rfl) (s_val (v_lenS (T := 29) (m := 1) (by kernel_rfl) rfl rfl) (s_val (v_mvI rfl) (s_nil (c_block (c_loop (σ := SbG) (fun (t : SbG) f => ∃ g, (SbOk w F12 h ps bank nr t) ∧ f = (upd (upd (upd (upd (upd (upd (upd g 1 (I bank)) 2 (.pointer (some ⟨b2, 0, none⟩))) 4 (.pointer (some ⟨b4, 0, none⟩))) 6 (.slice a12 (queueM ps bank).length c12)) 13 (.slice a12 (queueM ps bank).length c12)) 14 (I (queueM ps bank).length)) 15 (I t.k))) (fun (t : SbG) => Has w t.F [(b4, .cells zeroH.cells 43), (b2, .cells t.h.cells 43)]) (fun (t : SbG) => (queueM ps bank).length - t.k) ⟨F12, h, ps, 0⟩ ⟨_, sb_start hp hF12 hlc hsa hgp hnear, live7 rfl rfl rfl rfl rfl rfl rfl⟩ (fun w hw => hw) ?_)))))))))
 rintro t _ ⟨g, ho, rfl⟩
 refine r_seq (by kernel_rfl) (s_val (v_lsI rfl rfl) (s_nil (c_seq (c_condR rfl rfl (fun h16 => ?_) (fun h16 => ?_)))))
 · refine c_exit (n_exit (n_exit (n_bhere (n_then (r_seq (by kernel_rfl) (s_val (v_loadA (m := 42) (by kernel_rfl) rfl (.there .here) (H.size _)) (s_val (v_move (v := .slice _ _ _) rfl) (s_storeA (m := 42) (by kernel_rfl) rfl rfl .here (H.size _) (H.size _) (H.all1 _) (s_val (v_assign (v := .slice _ _ _) rfl) (s_nil (c_ret (n_done2F (m := 42) rfl (by decide) (by decide) rfl (by kernel_rfl) .here (H.size _) (fun w hw => ?_)))))))))))))
   exact ho.done (ho.fin (of_decide_eq_false h16)) hw ia12 (by have := of_decide_eq_false h16; have := ho.kl; omega)
 have hk0 := of_decide_eq_true h16
 obtain ⟨bq, oq, n, ha12, hn, hfn⟩ := ia12.get (j := t.k) (by omega)
 obtain ⟨p, hst, hpn, hsrc, hq, hn0, hnl, hnl'⟩ := ho.step hn
 obtain ⟨bp, op, hpa, hc⟩ := ho.pays.some hnl
 have hkl := ho.kl
 have hlent := ho.len
 refine c_skip (n_then (c_seq (c_block (r_seq (by kernel_rfl) (s_val (v_mvI rfl) (s_val (v_idxS (size := 1) (k := .i64) (by kernel_rfl) (congrArg (fun a => Value.slice a (queueM ps bank).length c12) ha12) rfl ⟨by omega, by omega⟩) (s_val (v_load1o (v := I n) (by kernel_rfl) rfl (by simpa using ho.more _ _ hfn.1)) (s_val (v_asI rfl) (s_val (v_asI rfl) (s_nil (r_seq (by kernel_rfl) (s_val (v_fd 40 (by kernel_rfl) rfl) (s_val (v_load1 (v := .slice _ _ _) (by kernel_rfl) rfl (.there .here) (H.at_pays _)) (s_val (v_mvI rfl) (s_val (v_idxS (size := 6) (k := .i64) (by kernel_rfl) (congrArg (fun a => Value.slice a t.h.pl t.h.pc) hpa) rfl ⟨by omega, by omega⟩) (s_val (v_loadNo (cs := p.cells) (m := 6) (by kernel_rfl) rfl rfl (hc _ p hpn)) (s_alloc (z := zeroOf Tryz.prog 67) (by kernel_rfl) (fun b9 => ?_))))))))))))))))))
 refine s_storeA (m := 6) (by kernel_rfl) rfl rfl .here (by kernel_rfl) rfl (PayS.all1 _) (s_nil (c_seq (r_seq (by kernel_rfl) (s_val (v_loadA (m := 42) (by kernel_rfl) rfl (.there (.there .here)) (H.size _)) (s_val (v_fd 0 (by kernel_rfl) rfl) (s_val (v_ldI (by kernel_rfl) rfl .here rfl) (s_val (v_fd 1 (by kernel_rfl) rfl) (s_val (v_ldI (by kernel_rfl) rfl .here rfl) (s_val (v_fd 2 (by kernel_rfl) rfl) (s_val (v_ldI (by kernel_rfl) rfl .here rfl) (s_call (by kernel_rfl) (fun w hw => g_May _ _ _ _ w) (s_val (v_not rfl) (s_nil (c_condNR rfl rfl (fun h33 => ?_) (fun h33 => ?_)))))))))))))))
 · refine c_skip (n_then (r_list (by kernel_rfl) (s_val (v_loadA (m := 42) (by kernel_rfl) rfl (.there (.there .here)) (H.size _)) (s_val (v_mvI rfl) (s_callG (by kernel_rfl) (houseF_mono _ _ _ _) (fun w hw => g_Settle t.h t.ps n w (ho.pays.at hw) (by omega) ho.lc) (fun F40 v40 hF40 hR40 => ?_))))))
   obtain ⟨h40, rfl, hco40, hlc40, hpo40⟩ := hR40
   refine s_storeA (m := 42) (by kernel_rfl) rfl rfl (.there (.there .here)) (H.size _) (H.size _) (H.all1 _) (s_end (n_bnormal (n_then (r_list (by kernel_rfl) (s_val (v_add rfl rfl (by omega)) (s_val (v_mvI rfl) (s_end (n_round (s := t) ⟨F40, h40, settleP t.ps n, t.k + 1⟩ ⟨_, ho.next hnn hnr hn hst hq (by have hm := h33; rw [ho.may hnr, hsrc] at hm; exact hm) hF40 hco40 hlc40 hpo40, live7 rfl rfl rfl rfl rfl rfl rfl⟩ (fun _ hw => hw.tail) (by dsimp only; omega)))))))))
 refine fw_seq (j0 := 4) (Ψ := (rowV 34 (.agg t.h.cells) (rowV 35 (.slice a12 (queueM ps bank).length c12) (rowV 36 (I t.k) (rowV 37 (.slice a12 ((t.k : Int)).toNat c12) (rowV 5 (.slice a12 ((t.k : Int)).toNat c12) AnyV)))))) (L' := [(b9, .cells p.cells 67), (b4, .cells t.h.cells 43), (b2, .cells t.h.cells 43)]) (by kernel_rfl) (by kernel_rfl) (by kernel_rfl) rfl ⟨?_, ?_, ?_, ?_, ?_, trivial⟩ ⟨?_, ?_, ?_, ?_, ?_, trivial⟩ ?_ ?_
 · refine obw_val (v := .agg t.h.cells) (fun g hl => ?_)
   have e2 : g 2 = .pointer (some ⟨b2, 0, none⟩) := (hl 2 (dK (by kernel_rfl))).2 (dK (by kernel_rfl))
   exact ⟨v_loadA (m := 42) (by kernel_rfl) e2 (.there (.there .here)) (H.size _), rfl⟩
 · refine obw_val (v := .slice a12 (queueM ps bank).length c12) (fun g hl => ?_)
   have e6 : g 6 = .slice a12 (queueM ps bank).length c12 := (hl 6 (dK (by kernel_rfl))).2 (dK (by kernel_rfl))
   exact ⟨v_move (v := .slice a12 (queueM ps bank).length c12) e6, rfl⟩
 · refine obw_val (v := I t.k) (fun g hl => ?_)
   have e7 : g 7 = I t.k := (hl 7 (dK (by kernel_rfl))).2 (dK (by kernel_rfl))
   exact ⟨v_move (v := I t.k) e7, rfl⟩
 · refine obw_val (v := .slice a12 ((t.k : Int)).toNat c12) (fun g hl => ?_)
   have e35 : g 35 = .slice a12 (queueM ps bank).length c12 := (hl 35 (dK (by kernel_rfl))).1 (dK (by kernel_rfl))
   have e36 : g 36 = I t.k := (hl 36 (dK (by kernel_rfl))).1 (dK (by kernel_rfl))
   exact ⟨v_sliceHi (m := 1) (by kernel_rfl) e35 e36 ⟨by omega, by omega⟩, rfl⟩
 · refine obw_val (v := .slice a12 ((t.k : Int)).toNat c12) (fun g hl => ?_)
   have e37 : g 37 = .slice a12 ((t.k : Int)).toNat c12 := (hl 37 (dK (by kernel_rfl))).1 (dK (by kernel_rfl))
   exact ⟨v_assign (v := .slice a12 ((t.k : Int)).toNat c12) e37, rfl⟩
 · refine obw_val (v := .agg t.h.cells) (fun g hl => ?_)
   have e2 : g 2 = .pointer (some ⟨b2, 0, none⟩) := (hl 2 (dK (by kernel_rfl))).2 (dK (by kernel_rfl))
   exact ⟨v_loadA (m := 42) (by kernel_rfl) e2 (.there (.there .here)) (H.size _), rfl⟩
 · refine obw_val (v := .slice a12 (queueM ps bank).length c12) (fun g hl => ?_)
   have e6 : g 6 = .slice a12 (queueM ps bank).length c12 := (hl 6 (dK (by kernel_rfl))).2 (dK (by kernel_rfl))
   exact ⟨v_move (v := .slice a12 (queueM ps bank).length c12) e6, rfl⟩
 · refine obw_val (v := I t.k) (fun g hl => ?_)
   have e7 : g 7 = I t.k := (hl 7 (dK (by kernel_rfl))).2 (dK (by kernel_rfl))
   exact ⟨v_move (v := I t.k) e7, rfl⟩
 · refine obw_val (v := .slice a12 ((t.k : Int)).toNat c12) (fun g hl => ?_)
   have e35 : g 35 = .slice a12 (queueM ps bank).length c12 := (hl 35 (dK (by kernel_rfl))).1 (dK (by kernel_rfl))
   have e36 : g 36 = I t.k := (hl 36 (dK (by kernel_rfl))).1 (dK (by kernel_rfl))
   exact ⟨v_sliceHi (m := 1) (by kernel_rfl) e35 e36 ⟨by omega, by omega⟩, rfl⟩
 · refine obw_val (v := .slice a12 ((t.k : Int)).toNat c12) (fun g hl => ?_)
   have e37 : g 37 = .slice a12 ((t.k : Int)).toNat c12 := (hl 37 (dK (by kernel_rfl))).1 (dK (by kernel_rfl))
   exact ⟨v_assign (v := .slice a12 ((t.k : Int)).toNat c12) e37, rfl⟩
 · intro g hl
   have e4 : g 4 = .pointer (some ⟨b4, 0, none⟩) := (hl 4 (dK (by kernel_rfl))).2 (dK (by kernel_rfl))
   have e34 : g 34 = .agg t.h.cells := (hl 34 (dK (by kernel_rfl))).1 (dK (by kernel_rfl))
   refine ⟨rfl, ?_⟩
   refine s_storeA (m := 42) (by kernel_rfl) e4 e34 (.there .here) (H.size _) (H.size _) (H.all1 _) ?_
   exact ow_end
 intro g hd he
 have e4 : g 4 = .pointer (some ⟨b4, 0, none⟩) := he 4 (dK (by kernel_rfl))
 have e5 : g 5 = .slice a12 ((t.k : Int)).toNat c12 := hd 5 (dK (by kernel_rfl))
 obtain ⟨g1, hg1⟩ : ∃ g1, g = (upd (upd g1 4 (.pointer (some ⟨b4, 0, none⟩))) 5 (.slice a12 ((t.k : Int)).toNat c12)) := ⟨g, live2 e4 e5⟩
 rw [hg1]
 refine c_ret (n_ret (n_bret (n_ret (n_ret (n_bret (n_ret (n_done2F (m := 42) rfl (by decide) (by decide) rfl (by kernel_rfl) (.there .here) (H.size _) (fun w hw => ?_))))))))
 exact ho.done (firstM_no hq hpn (by have hm := h33; rw [ho.may hnr, hsrc] at hm; exact hm)) hw ia12 (by omega)
end Go.Proofs.YtmkboljfbmlebacGreat
namespace Go.Proofs.YtmkboljfbmlebacGreat
open Go.RowKit
set_option linter.unusedSimpArgs false
set_option linter.unusedVariables false
set_option maxRecDepth 100000
attribute [local irreducible] cC sC nC rC qw
theorem g_Sweep (h : H) (ps : List PayS) (w : World) (hp : PaysIn (At w) h.pa h.pl ps) (hb : h.pl * 48 ≤ 281474976710656) (hlc : h.pl ≤ h.pc) : GivesF Tryz.prog 80 [.agg h.cells] w (SweepF h ps (sweepM h.core ps)) := by
 refine givesF_of Tryz.func80 rfl Tryz.ntmps80 (by simp) (r_seq (by kernel_rfl) (s_box (v := .agg _) rfl (fun b1 => ?_)))
 refine s_alloc (z := .agg zeroH.cells) (by kernel_rfl) (fun b2 => ?_)
 refine s_val (v_assign (v := .slice _ _ _) rfl) (s_nil (c_seq (r_seq (by kernel_rfl) (s_val (v_loadA (m := 42) (by kernel_rfl) rfl (.there .here) (H.size _)) (s_call (by kernel_rfl) (fun w hw => g_Good _ ps w (hp.at hw)) (s_val (v_not rfl) (s_nil (c_condN rfl rfl (fun h10 => ?_) (fun h10 => ?_)))))))))
 · refine r_seq (by kernel_rfl) (s_val (v_loadA (m := 42) (by kernel_rfl) rfl (.there .here) (H.size _)) (s_storeA (m := 42) (by kernel_rfl) rfl rfl .here (H.size _) (H.size _) (H.all1 _) (s_val (v_assign (v := .slice _ _ _) rfl) (s_nil (c_ret (n_ret (n_done2F (m := 42) rfl (by decide) (by decide) rfl (by kernel_rfl) .here (H.size _) (fun w hw => ?_))))))))
   have hg : goodB h.core ps = false := h10
   simp only [sweepM, hg, cond_false]
   exact ⟨_, _, rfl, ⟨h, rfl, rfl, hlc, .inl ⟨rfl, rfl, rfl⟩⟩, none, 0, rfl, .inl rfl⟩
 refine c_skip (n_then ?_)
 have hg : goodB h.core ps = true := h10
 have hl24 := (good_pays hg).2.2
 have hpl := hp.1
 refine r_seq (by kernel_rfl) (s_val (v_assign (v := .slice _ _ _) rfl) (s_nil (c_block (c_loop (σ := SwG) (fun (s : SwG) f => ∃ g, (SpOk w h ps 3 s ∧ s.bank = 0) ∧ f = (upd (upd (upd g 1 (.pointer (some ⟨b1, 0, none⟩))) 2 (.pointer (some ⟨b2, 0, none⟩))) 4 (s.v))) (fun (s : SwG) => Has w s.F (s.E ++ [(b2, .cells zeroH.cells 43), (b1, .cells s.h.cells 43)])) (fun (s : SwG) => cnt s.ps) ⟨At w, h, ps, [], .slice none 0 0, [], 0, 0⟩ ⟨_, ⟨sp_start hp hlc hg, rfl⟩, live3 rfl rfl rfl⟩ (fun w hw => hw) ?_))))
 rintro s _ ⟨g, ⟨hok0, hb0⟩, rfl⟩
 refine c_block ?_
 obtain ⟨a4, c4, hv4⟩ := hok0.sw.list.shape
 have hsum0 := hok0.sw.sum
 refine r_seq (by kernel_rfl) (s_val (v_move (v := _) rfl) (s_val (v_lenS (T := 29) (m := 1) (by kernel_rfl) rfl (show s.v = _ from hv4)) (s_val (v_asI rfl) (s_nil (c_seq (r_seq (by kernel_rfl) (s_val (v_mvI rfl) (s_nil (c_block (c_loop (σ := SwG) (fun (t : SwG) f => ∃ g, (SpOk w h ps 3 t ∧ t.bank ≤ 4 ∧ s.xs.length ≤ t.xs.length ∧ (t.xs.length = s.xs.length → t.bank ≤ t.idle) ∧ t.xs.length + cnt t.ps = s.xs.length + cnt s.ps) ∧ f = (upd (upd (upd (upd (upd g 1 (.pointer (some ⟨b1, 0, none⟩))) 2 (.pointer (some ⟨b2, 0, none⟩))) 4 (t.v)) 5 (I s.xs.length)) 14 (I t.bank))) (fun (t : SwG) => Has w t.F (t.E ++ [(b2, .cells zeroH.cells 43), (b1, .cells t.h.cells 43)])) (fun (t : SwG) => 4 - t.bank) ⟨s.F, s.h, s.ps, s.xs, s.v, s.E, 0, s.idle⟩ ⟨_, ⟨⟨⟨hok0.sw.pays, hok0.sw.out, hok0.sw.len, hok0.sw.lc, hok0.sw.list, hok0.sw.sum⟩, hok0.seqs, hok0.good, hok0.near, hok0.cl, hok0.i4, show sweepFrom 0 s.idle s.q = sweepM h.core ps by have e := hok0.goes; rw [hb0] at e; exact e⟩, Nat.zero_le _, Nat.le_refl _, fun _ => Nat.zero_le _, rfl⟩, live5 rfl rfl rfl rfl rfl⟩ (fun w hw => hw) ?_))))))))))
 rintro t _ ⟨g, ⟨hok, hb4, hxl, hid, hcx⟩, rfl⟩
 refine r_seq (by kernel_rfl) (s_val (v_lsI rfl rfl) (s_nil (c_seq (c_condR rfl rfl (fun h15 => ?_) (fun h15 => ?_)))))
 · have hk4 : t.bank = 4 := by have := of_decide_eq_false h15; omega
   obtain ⟨a5, c5, hv5⟩ := hok.sw.list.shape
   refine c_exit (n_exit (n_exit (n_bhere (n_then (r_seq (by kernel_rfl) (s_val (v_move (v := _) rfl) (s_val (v_lenS (T := 29) (m := 1) (by kernel_rfl) rfl (show t.v = _ from hv5)) (s_val (v_mvI rfl) (s_val (v_eql (k := .i64) rfl rfl) (s_nil (c_condR rfl rfl (fun h30 => ?_) (fun h30 => ?_))))))))))))
   · refine c_skip (n_bnormal (n_round (s := s) ⟨t.F, t.h, t.ps, t.xs, t.v, t.E, 0, t.idle⟩ ⟨_, ⟨⟨⟨hok.sw.pays, hok.sw.out, hok.sw.len, hok.sw.lc, hok.sw.list, hok.sw.sum⟩, hok.seqs, hok.good, hok.near, hok.cl, hok.i4, show sweepFrom 0 t.idle t.q = sweepM h.core ps by have e := hok.goes; rw [hk4] at e; exact e⟩, rfl⟩, live3 rfl rfl rfl⟩ (fun _ hw => hw) (by have := of_decide_eq_false h30; dsimp only; omega)))
   refine r_seq (by kernel_rfl) (s_val (v_loadA (m := 42) (by kernel_rfl) rfl (.app (.there .here)) (H.size _)) (s_val (v_move (v := _) rfl) (s_storeA (m := 42) (by kernel_rfl) rfl rfl (.app .here) (H.size _) (H.size _) (H.all1 _) (s_val (v_assign (v := _) rfl) (s_nil (c_ret (n_bret (n_ret (n_bret (n_done2F (m := 42) rfl (by decide) (by decide) rfl (by kernel_rfl) (.app .here) (H.size _) (fun w hw => ?_)))))))))))
   have hx := of_decide_eq_true h30
   have hi4 : ¬ t.idle < 4 := by have := hid (by omega); omega
   have e := hok.goes
   rw [sweep_end hi4] at e
   rw [← e]
   exact hok.sw.done hw
 have hk4 : t.bank < 4 := by have := of_decide_eq_true h15; omega
 have hsum := hok.sw.sum
 have hcl := hok.cl
 have hlent := hok.sw.len
 have hlp := hok.sw.pays.1
 refine c_skip (n_then (c_seq (c_block (r_seq (by kernel_rfl) (s_val (v_mvI rfl) (s_val (v_asI rfl) (s_nil (r_seq (by kernel_rfl) (s_val (v_assign (v := .slice _ _ _) rfl) (s_nil (r_seq (by kernel_rfl) (s_val (v_loadA (m := 42) (by kernel_rfl) rfl (.app (.there .here)) (H.size _)) (s_val (v_mvI rfl) (s_callG (by kernel_rfl) (sweepF_mono _ _ _) (fun w hw => g_sweepBank t.h t.ps (t.bank : Int) ((ps.length : Int) - cnt t.ps) w (hok.sw.pays.at hw) (by omega) hok.sw.lc hok.seqs hok.good (by omega) (by omega) (by omega) hok.near) (fun F20 v20 hF20 hR20 => ?_)))))))))))))))
 obtain ⟨v1, v2, rfl, ⟨h20, rfl, hc20, hl20, ho20⟩, hi20⟩ := hR20
 obtain ⟨a20, c20, rfl, ia20⟩ := hi20.at
 have hdf := drain_facts (t.bank : Int) ⟨t.h.core, t.ps, []⟩
 simp only [List.length_nil, Nat.zero_add] at hdf
 refine s_val (v_move (v := .tuple _) rfl) (s_val (v_extract rfl rfl) (s_val (v_extract rfl rfl) (s_storeA (m := 42) (by kernel_rfl) rfl rfl (.app (.there .here)) (H.size _) (H.size _) (H.all1 _) (s_val (v_assign (v := .slice _ _ _) rfl) (s_nil (r_list (by kernel_rfl) (s_val (v_move (v := _) rfl) (s_val (v_move (v := .slice _ _ _) rfl) (s_pushAll (e := 3) (by_ := 8) (by kernel_rfl) rfl rfl rfl rfl hok.sw.list (ia20.mono (more_young _ _)) (by omega) (fun v25 E25 hE25 => ?_))))))))))
 obtain ⟨i25, hok25, hid25⟩ := hok.step hg hl24 hk4 hF20 hc20 hl20 ho20 hE25
 refine s_val (v_assign (v := _) rfl) (s_end (n_bnormal (n_then (r_list (by kernel_rfl) (s_val (v_add rfl rfl (by omega)) (s_val (v_mvI rfl) (s_end ?_)))))))
 refine n_round (s := t) ⟨F20, h20, (drain t.bank ⟨t.h.core, t.ps, []⟩).ps, t.xs ++ (drain t.bank ⟨t.h.core, t.ps, []⟩).xs, v25, E25, t.bank + 1, i25⟩ ⟨_, ⟨hok25, hk4, by rw [List.length_append]; omega, fun e => by
     have e0 : (t.xs ++ (drain t.bank ⟨t.h.core, t.ps, []⟩).xs).length = t.xs.length + (drain t.bank ⟨t.h.core, t.ps, []⟩).xs.length := List.length_append
     have e1 := hid25 (by dsimp only at e ⊢; omega)
     have e2 := hid (by dsimp only at e; omega)
     have := hok.i4
     dsimp only
     omega, by dsimp only; rw [List.length_append]; omega⟩, live5 rfl rfl rfl rfl rfl⟩ (fun _ hw => hw) (by dsimp only; omega)
end Go.Proofs.YtmkboljfbmlebacGreat
namespace Go.Proofs.YtmkboljfbmlebacGreat
open Go.RowKit
set_option linter.unusedSimpArgs false
set_option linter.unusedVariables false
set_option maxRecDepth 100000
attribute [local irreducible] cC sC nC rC qw
theorem g_swept (kf : Nat) (w : World) : GivesE Tryz.prog 67 [.func (.func kf) #[] #[]] w (fun v E => ∃ bb, v = .func (.func 79) #[] #[.pointer (some ⟨bb, 0, none⟩)] ∧ E = [(bb, .cells #[.func (.func kf) #[] #[]] 80 (0, 0))]) := by
 refine givesE_of Tryz.func67 rfl Tryz.ntmps67 (by simp) (r_seq (by kernel_rfl) (s_box (v := .func _ _ _) rfl (fun b1 => ?_)))
 refine s_val (v_assign (v := _) rfl) (s_nil (r_seq (by kernel_rfl) (s_val (v_makeFunc (vs := [.pointer (some ⟨b1, 0, none⟩)]) rfl) (s_val (v_assign (v := .func _ _ _) rfl) (s_nil (c_ret (n_doneE (E := [_]) (L := []) rfl (by decide) ⟨b1, rfl, rfl⟩)))))))
set_option maxHeartbeats 1000000 in
theorem g_swept1 (kf bb : Nat) (F : Addr → Value → Prop) (h : H) (a : ActS) (E : List (Nat × Obj)) (q : NR) (hbody : hasBody Tryz.prog kf = true) (hs : Short q) (hbox : F ⟨bb, 0, none⟩ (.func (.func kf) #[] #[])) (hin : GivesV Tryz.prog kf [.agg h.cells, .agg a.cells] F E (NextV 3 q)) : GivesV Tryz.prog 79 [.agg h.cells, .agg a.cells, .pointer (some ⟨bb, 0, none⟩)] F (E) (NextV 3 (sweptM q)) := by
 refine givesV_of Tryz.func79 rfl Tryz.ntmps79 (by simp) (fun w K => ?_)
 obtain ⟨hs1, hs2⟩ := hs
 refine r_seq (by kernel_rfl) (s_box (v := .agg _) rfl (fun b3 => ?_))
 refine s_box (v := .agg _) rfl (fun b4 => ?_)
 refine s_alloc (z := .agg zeroH.cells) (by kernel_rfl) (fun b5 => ?_)
 refine s_alloc (z := .agg (repC 0 0 (.slice none 0 0))) (by kernel_rfl) (fun b6 => ?_)
 refine s_nil (r_seq (by kernel_rfl) (s_val (v_load1o (by kernel_rfl) rfl hbox) (s_val (v_loadA (m := 42) (by kernel_rfl) rfl (.there (.there (.there .here))) (H.size _)) (s_val (v_loadA (m := 5) (by kernel_rfl) rfl (.there (.there .here)) rfl) (s_weak (fun w1 hw => hw.perm (List.Perm.cons _ (List.Perm.cons _ (List.Perm.cons _ List.perm_middle.symm)))) (s_weak (fun w1 hw => hw.perm (List.Perm.cons _ (List.Perm.cons _ List.perm_middle.symm))) (s_weak (fun w1 hw => hw.perm (List.Perm.cons _ List.perm_middle.symm)) (s_weak (fun w1 hw => hw.perm List.perm_middle.symm) (s_callVC rfl hbody hin (fun F12 v12 E12 hF12 hR12 => ?_))))))))))
 obtain ⟨h12, vd12, rfl, hc12, hlc12, hp12, hd12⟩ := hR12
 obtain ⟨a12, m12, c12, rfl⟩ := hd12.shape3
 refine s_val (v_move (v := .tuple _) rfl) (s_val (v_extract rfl rfl) (s_val (v_extract rfl rfl) (s_storeA (m := 42) (by kernel_rfl) rfl rfl (.app (.there .here)) (H.size _) (H.size _) (H.all1 _) (s_storeA (m := 3) (by kernel_rfl) rfl rfl (.app .here) rfl rfl rep_all (s_nil (c_seq (r_seq (by kernel_rfl) (s_val (v_fd 0 (by kernel_rfl) rfl) (s_val (v_ldI (by kernel_rfl) rfl (.app .here) rfl) (s_val (v_eql (k := .i64) rfl rfl) (s_nil (c_condR rfl rfl (fun h17 => ?_) (fun h17 => ?_)))))))))))))
 · refine c_skip (n_then ?_)
   apply f2_seq (j0 := 2) (j1 := 3) (Ψ := (rowV 28 (.agg h12.cells) (rowV 29 (.agg (repC q.code q.n (.slice a12 m12 c12))) AnyV))) (by kernel_rfl) (by kernel_rfl) (by kernel_rfl) (by kernel_rfl) (by kernel_rfl) rfl rfl
   · intro g hl
     have e5 : g 5 = .pointer (some ⟨b5, 0, none⟩) := (hl 5 (dK (by kernel_rfl))).2 (dK (by kernel_rfl))
     have e28 : g 28 = .agg h12.cells := (hl 28 (dK (by kernel_rfl))).1 (dK (by kernel_rfl))
     refine ⟨rfl, ?_⟩
     refine s_storeA (m := 42) (by kernel_rfl) e5 e28 (.app (.there .here)) (H.size _) (H.size _) (H.all1 _) ?_
     exact ow_end
   · intro g hl
     have e6 : g 6 = .pointer (some ⟨b6, 0, none⟩) := (hl 6 (dK (by kernel_rfl))).2 (dK (by kernel_rfl))
     have e29 : g 29 = .agg (repC q.code q.n (.slice a12 m12 c12)) := (hl 29 (dK (by kernel_rfl))).1 (dK (by kernel_rfl))
     refine ⟨rfl, ?_⟩
     refine s_storeA (m := 3) (by kernel_rfl) e6 e29 (.app .here) rfl rfl rep_all ?_
     exact ow_end
   · refine ⟨?_, ?_, trivial⟩
     · refine obw_val (v := .agg h12.cells) (fun g hl => ?_)
       have e5 : g 5 = .pointer (some ⟨b5, 0, none⟩) := (hl 5 (dK (by kernel_rfl))).2 (dK (by kernel_rfl))
       exact ⟨v_loadA (m := 42) (by kernel_rfl) e5 (.app (.there .here)) (H.size _), rfl⟩
     · refine obw_val (v := .agg (repC q.code q.n (.slice a12 m12 c12))) (fun g hl => ?_)
       have e6 : g 6 = .pointer (some ⟨b6, 0, none⟩) := (hl 6 (dK (by kernel_rfl))).2 (dK (by kernel_rfl))
       exact ⟨v_loadA (m := 3) (by kernel_rfl) e6 (.app .here) rfl, rfl⟩
   · refine ⟨?_, ?_, trivial⟩
     · refine obw_val (v := .agg h12.cells) (fun g hl => ?_)
       have e5 : g 5 = .pointer (some ⟨b5, 0, none⟩) := (hl 5 (dK (by kernel_rfl))).2 (dK (by kernel_rfl))
       exact ⟨v_loadA (m := 42) (by kernel_rfl) e5 (.app (.there .here)) (H.size _), rfl⟩
     · refine obw_val (v := .agg (repC q.code q.n (.slice a12 m12 c12))) (fun g hl => ?_)
       have e6 : g 6 = .pointer (some ⟨b6, 0, none⟩) := (hl 6 (dK (by kernel_rfl))).2 (dK (by kernel_rfl))
       exact ⟨v_loadA (m := 3) (by kernel_rfl) e6 (.app .here) rfl, rfl⟩
   · refine ⟨?_, ?_, trivial⟩
     · refine obw_val (v := .agg h12.cells) (fun g hl => ?_)
       have e5 : g 5 = .pointer (some ⟨b5, 0, none⟩) := (hl 5 (dK (by kernel_rfl))).2 (dK (by kernel_rfl))
       exact ⟨v_loadA (m := 42) (by kernel_rfl) e5 (.app (.there .here)) (H.size _), rfl⟩
     · refine obw_val (v := .agg (repC q.code q.n (.slice a12 m12 c12))) (fun g hl => ?_)
       have e6 : g 6 = .pointer (some ⟨b6, 0, none⟩) := (hl 6 (dK (by kernel_rfl))).2 (dK (by kernel_rfl))
       exact ⟨v_loadA (m := 3) (by kernel_rfl) e6 (.app .here) rfl, rfl⟩
   intro g hd he
   have e5 : g 5 = .pointer (some ⟨b5, 0, none⟩) := he 5 (dK (by kernel_rfl))
   have e6 : g 6 = .pointer (some ⟨b6, 0, none⟩) := he 6 (dK (by kernel_rfl))
   obtain ⟨g1, hg1⟩ : ∃ g1, g = (upd (upd g1 5 (.pointer (some ⟨b5, 0, none⟩))) 6 (.pointer (some ⟨b6, 0, none⟩))) := ⟨g, live2 e5 e6⟩
   rw [hg1]
   refine c_ret (n_doneV2 (m := 42) (m' := 3) rfl (by decide) (by decide) rfl rfl (by kernel_rfl) (by kernel_rfl) (.app (.there .here)) (.app .here) (H.size _) rep_size (fun w1 hw => ?_))
   exact retV_known (hw.sub (List.Sublist.append (List.Sublist.refl _) (List.Sublist.cons _ (List.Sublist.cons _ (List.Sublist.cons _ (List.Sublist.cons _ (List.Sublist.refl _))))))) hF12 hp12 hlc12 hd12 (by simp only [sweptM, h17, cond_false]; rw [hc12])
 refine r_seq (by kernel_rfl) (s_val (v_assign (v := .slice _ _ _) rfl) (s_nil (r_seq (by kernel_rfl) (s_val (v_loadA (m := 42) (by kernel_rfl) rfl (.app (.there .here)) (H.size _)) (s_callG (by kernel_rfl) (sweepF_mono _ _ _) (fun w hw => g_Sweep h12 q.ps w ((hp12.mono (more_young _ _)).at hw) (by have := hp12.1; omega) hlc12) (fun F20 v20 hF20 hR20 => ?_))))))
 obtain ⟨hy, a22, c22, rfl, hcy, hlcy, hpy, hi22, hsl⟩ := sweepF_open hR20
 refine s_val (v_move (v := .tuple _) rfl) (s_val (v_extract rfl rfl) (s_val (v_extract rfl rfl) (s_storeA (m := 42) (by kernel_rfl) rfl rfl (.app (.there .here)) (H.size _) (H.size _) (H.all1 _) (s_val (v_assign (v := .slice _ _ _) rfl) (s_nil (r_list (by kernel_rfl) (s_val (v_fd 2 (by kernel_rfl) rfl) (s_val (v_load1 (v := .slice _ _ _) (by kernel_rfl) rfl (.app .here) rfl) (s_val (v_move (v := .slice _ _ _) rfl) (s_pushAll (e := 3) (by_ := 8) (by kernel_rfl) rfl rfl rfl rfl hd12 (hi22.mono (more_young _ _)) (by omega) (fun v26 E26 hE26 => ?_)))))))))))
 obtain ⟨a26, m26, c26, rfl⟩ := hE26.shape3
 refine s_val (v_fd 2 (by kernel_rfl) rfl) (s_store1 (v := .slice _ _ _) (by kernel_rfl) rfl rfl (.app .here) rep_setD rfl (s_end (n_then ?_)))
 apply f2_seq (j0 := 2) (j1 := 3) (Ψ := (rowV 28 (.agg hy.cells) (rowV 29 (.agg (repC q.code q.n (.slice a26 m26 c26))) AnyV))) (by kernel_rfl) (by kernel_rfl) (by kernel_rfl) (by kernel_rfl) (by kernel_rfl) rfl rfl
 · intro g hl
   have e5 : g 5 = .pointer (some ⟨b5, 0, none⟩) := (hl 5 (dK (by kernel_rfl))).2 (dK (by kernel_rfl))
   have e28 : g 28 = .agg hy.cells := (hl 28 (dK (by kernel_rfl))).1 (dK (by kernel_rfl))
   refine ⟨rfl, ?_⟩
   refine s_storeA (m := 42) (by kernel_rfl) e5 e28 (.app (.there .here)) (H.size _) (H.size _) (H.all1 _) ?_
   exact ow_end
 · intro g hl
   have e6 : g 6 = .pointer (some ⟨b6, 0, none⟩) := (hl 6 (dK (by kernel_rfl))).2 (dK (by kernel_rfl))
   have e29 : g 29 = .agg (repC q.code q.n (.slice a26 m26 c26)) := (hl 29 (dK (by kernel_rfl))).1 (dK (by kernel_rfl))
   refine ⟨rfl, ?_⟩
   refine s_storeA (m := 3) (by kernel_rfl) e6 e29 (.app .here) rfl rfl rep_all ?_
   exact ow_end
 · refine ⟨?_, ?_, trivial⟩
   · refine obw_val (v := .agg hy.cells) (fun g hl => ?_)
     have e5 : g 5 = .pointer (some ⟨b5, 0, none⟩) := (hl 5 (dK (by kernel_rfl))).2 (dK (by kernel_rfl))
     exact ⟨v_loadA (m := 42) (by kernel_rfl) e5 (.app (.there .here)) (H.size _), rfl⟩
   · refine obw_val (v := .agg (repC q.code q.n (.slice a26 m26 c26))) (fun g hl => ?_)
     have e6 : g 6 = .pointer (some ⟨b6, 0, none⟩) := (hl 6 (dK (by kernel_rfl))).2 (dK (by kernel_rfl))
     exact ⟨v_loadA (m := 3) (by kernel_rfl) e6 (.app .here) rfl, rfl⟩
 · refine ⟨?_, ?_, trivial⟩
   · refine obw_val (v := .agg hy.cells) (fun g hl => ?_)
     have e5 : g 5 = .pointer (some ⟨b5, 0, none⟩) := (hl 5 (dK (by kernel_rfl))).2 (dK (by kernel_rfl))
     exact ⟨v_loadA (m := 42) (by kernel_rfl) e5 (.app (.there .here)) (H.size _), rfl⟩
   · refine obw_val (v := .agg (repC q.code q.n (.slice a26 m26 c26))) (fun g hl => ?_)
     have e6 : g 6 = .pointer (some ⟨b6, 0, none⟩) := (hl 6 (dK (by kernel_rfl))).2 (dK (by kernel_rfl))
     exact ⟨v_loadA (m := 3) (by kernel_rfl) e6 (.app .here) rfl, rfl⟩
 · refine ⟨?_, ?_, trivial⟩
   · refine obw_val (v := .agg hy.cells) (fun g hl => ?_)
     have e5 : g 5 = .pointer (some ⟨b5, 0, none⟩) := (hl 5 (dK (by kernel_rfl))).2 (dK (by kernel_rfl))
     exact ⟨v_loadA (m := 42) (by kernel_rfl) e5 (.app (.there .here)) (H.size _), rfl⟩
   · refine obw_val (v := .agg (repC q.code q.n (.slice a26 m26 c26))) (fun g hl => ?_)
     have e6 : g 6 = .pointer (some ⟨b6, 0, none⟩) := (hl 6 (dK (by kernel_rfl))).2 (dK (by kernel_rfl))
     exact ⟨v_loadA (m := 3) (by kernel_rfl) e6 (.app .here) rfl, rfl⟩
 intro g hd he
 have e5 : g 5 = .pointer (some ⟨b5, 0, none⟩) := he 5 (dK (by kernel_rfl))
 have e6 : g 6 = .pointer (some ⟨b6, 0, none⟩) := he 6 (dK (by kernel_rfl))
 obtain ⟨g1, hg1⟩ : ∃ g1, g = (upd (upd g1 5 (.pointer (some ⟨b5, 0, none⟩))) 6 (.pointer (some ⟨b6, 0, none⟩))) := ⟨g, live2 e5 e6⟩
 rw [hg1]
 refine c_ret (n_doneV2 (m := 42) (m' := 3) rfl (by decide) (by decide) rfl rfl (by kernel_rfl) (by kernel_rfl) (.app (.there .here)) (.app .here) (H.size _) rep_size (fun w1 hw => ?_))
 have hq0 : q.code = 0 := of_decide_eq_true h17
 have hps : PaysIn (Young w F20) hy.pa hy.pl (sweepM h12.core q.ps).ps := by
   rcases hpy with e | e
   · rw [e.1, e.2.1, e.2.2]; exact hp12.mono (young_mono hF20)
   · exact e
 exact retV_known (d := q.done ++ (sweepM h12.core q.ps).xs) (hw.sub (List.Sublist.append (List.Sublist.refl _) (List.Sublist.cons _ (List.Sublist.cons _ (List.Sublist.cons _ (List.Sublist.cons _ (List.Sublist.refl _))))))) (fun a v h => hF20 a v (hF12 a v h)) hps hlcy (by simpa using hE26) (by simp only [sweptM, h17, cond_true, sweepN]; rw [← hc12, hcy, hq0])
end Go.Proofs.YtmkboljfbmlebacGreat
namespace Go.Proofs.YtmkboljfbmlebacGreat
open Go.RowKit
set_option linter.unusedSimpArgs false
set_option linter.unusedVariables false
set_option maxRecDepth 100000
attribute [local irreducible] cC sC nC rC qw
set_option maxHeartbeats 1000000 in
theorem g_stepOf (n : Int) (w : World) : GivesF Tryz.prog 43 [I n] w (StepF Tryz.prog 3 67 n) := by
 refine givesF_of Tryz.func43 rfl Tryz.ntmps43 (by simp) (r_seq (by kernel_rfl) (s_val (v_assign (v := _) rfl) (s_val (v_asB rfl) (s_nil (c_seq (r_seq (by kernel_rfl) (s_val (v_mvI rfl) (s_nil (c_block (r_seq (by kernel_rfl) (s_val (v_eql (k := .i64) rfl rfl) (s_val (v_asB rfl) (s_nil (c_cond rfl rfl (fun h5 => ?_) (fun h5 => ?_)))))))))))))))
 · refine r_list (by kernel_rfl) (s_val (v_assign (v := .func _ _ _) rfl) (s_end (n_bnormal (n_then (r_seq (by kernel_rfl) (s_val (v_move (v := .func _ _ _) rfl) (s_callE (by kernel_rfl) (fun w hw => g_swept 58 w) (fun v24 E24 hR24 => ?_))))))))
   obtain ⟨bb, rfl, rfl⟩ := hR24
   refine s_val (v_assign (v := .func _ _ _) rfl) (s_val (v_asB rfl) (s_nil (c_ret (n_doneTF rfl (by decide) (by decide) (fun w1 hw => ?_)))))
   refine ⟨_, true, rfl, (fun hh => by cases hh), fun _ => ⟨79, [.pointer (some ⟨bb, 0, none⟩)], rfl, by kernel_rfl, fun F' h ps a E hF hk hE hl hg => ?_⟩⟩
   rw [nx_pay hg (hk.trans (of_decide_eq_true h5))]
   exact g_swept1 58 bb F' h a E _ (by kernel_rfl) (short_pay (good_pays hg).2.2) (hF _ _ (own_known hw (fun _ q => q) bb _ _ _ (.head _) 0 _ rfl)) (g_pay F' h ps a E hE hl hg)
 refine r_seq (by kernel_rfl) (s_val (v_eql (k := .i64) rfl rfl) (s_val (v_asB rfl) (s_nil (c_cond rfl rfl (fun h7 => ?_) (fun h7 => ?_)))))
 · refine r_list (by kernel_rfl) (s_val (v_assign (v := .func _ _ _) rfl) (s_end (n_bnormal (n_then (r_seq (by kernel_rfl) (s_val (v_move (v := .func _ _ _) rfl) (s_callE (by kernel_rfl) (fun w hw => g_swept 59 w) (fun v24 E24 hR24 => ?_))))))))
   obtain ⟨bb, rfl, rfl⟩ := hR24
   refine s_val (v_assign (v := .func _ _ _) rfl) (s_val (v_asB rfl) (s_nil (c_ret (n_doneTF rfl (by decide) (by decide) (fun w1 hw => ?_)))))
   refine ⟨_, true, rfl, (fun hh => by cases hh), fun _ => ⟨79, [.pointer (some ⟨bb, 0, none⟩)], rfl, by kernel_rfl, fun F' h ps a E hF hk hE hl hg => ?_⟩⟩
   rw [nx_revoke hg (hk.trans (of_decide_eq_true h7))]
   exact g_swept1 59 bb F' h a E _ (by kernel_rfl) (short_revoke (good_pays hg).2.2) (hF _ _ (own_known hw (fun _ q => q) bb _ _ _ (.head _) 0 _ rfl)) (g_revoke F' h ps a E hE hl hg)
 refine r_seq (by kernel_rfl) (s_val (v_eql (k := .i64) rfl rfl) (s_val (v_asB rfl) (s_nil (c_cond rfl rfl (fun h9 => ?_) (fun h9 => ?_)))))
 · refine r_list (by kernel_rfl) (s_val (v_assign (v := .func _ _ _) rfl) (s_end (n_bnormal (n_then (r_seq (by kernel_rfl) (s_val (v_move (v := .func _ _ _) rfl) (s_callE (by kernel_rfl) (fun w hw => g_swept 60 w) (fun v24 E24 hR24 => ?_))))))))
   obtain ⟨bb, rfl, rfl⟩ := hR24
   refine s_val (v_assign (v := .func _ _ _) rfl) (s_val (v_asB rfl) (s_nil (c_ret (n_doneTF rfl (by decide) (by decide) (fun w1 hw => ?_)))))
   refine ⟨_, true, rfl, (fun hh => by cases hh), fun _ => ⟨79, [.pointer (some ⟨bb, 0, none⟩)], rfl, by kernel_rfl, fun F' h ps a E hF hk hE hl hg => ?_⟩⟩
   rw [nx_class hg (hk.trans (of_decide_eq_true h9))]
   exact g_swept1 60 bb F' h a E _ (by kernel_rfl) (short_class (good_pays hg).2.2) (hF _ _ (own_known hw (fun _ q => q) bb _ _ _ (.head _) 0 _ rfl)) (g_class F' h ps a E hE hl hg)
 refine r_seq (by kernel_rfl) (s_val (v_eql (k := .i64) rfl rfl) (s_val (v_asB rfl) (s_nil (c_cond rfl rfl (fun h11 => ?_) (fun h11 => ?_)))))
 · refine r_list (by kernel_rfl) (s_val (v_assign (v := .func _ _ _) rfl) (s_end (n_bnormal (n_then (r_seq (by kernel_rfl) (s_val (v_move (v := .func _ _ _) rfl) (s_callE (by kernel_rfl) (fun w hw => g_swept 61 w) (fun v24 E24 hR24 => ?_))))))))
   obtain ⟨bb, rfl, rfl⟩ := hR24
   refine s_val (v_assign (v := .func _ _ _) rfl) (s_val (v_asB rfl) (s_nil (c_ret (n_doneTF rfl (by decide) (by decide) (fun w1 hw => ?_)))))
   refine ⟨_, true, rfl, (fun hh => by cases hh), fun _ => ⟨79, [.pointer (some ⟨bb, 0, none⟩)], rfl, by kernel_rfl, fun F' h ps a E hF hk hE hl hg => ?_⟩⟩
   rw [nx_credit hg (hk.trans (of_decide_eq_true h11))]
   exact g_swept1 61 bb F' h a E _ (by kernel_rfl) (short_credit (good_pays hg).2.2) (hF _ _ (own_known hw (fun _ q => q) bb _ _ _ (.head _) 0 _ rfl)) (g_credit F' h ps a E hE hl hg)
 refine r_seq (by kernel_rfl) (s_val (v_eql (k := .i64) rfl rfl) (s_val (v_asB rfl) (s_nil (c_cond rfl rfl (fun h13 => ?_) (fun h13 => ?_)))))
 · refine r_list (by kernel_rfl) (s_val (v_assign (v := .func _ _ _) rfl) (s_end (n_bnormal (n_then (r_seq (by kernel_rfl) (s_val (v_move (v := .func _ _ _) rfl) (s_callE (by kernel_rfl) (fun w hw => g_swept 62 w) (fun v24 E24 hR24 => ?_))))))))
   obtain ⟨bb, rfl, rfl⟩ := hR24
   refine s_val (v_assign (v := .func _ _ _) rfl) (s_val (v_asB rfl) (s_nil (c_ret (n_doneTF rfl (by decide) (by decide) (fun w1 hw => ?_)))))
   refine ⟨_, true, rfl, (fun hh => by cases hh), fun _ => ⟨79, [.pointer (some ⟨bb, 0, none⟩)], rfl, by kernel_rfl, fun F' h ps a E hF hk hE hl hg => ?_⟩⟩
   rw [nx_limit hg (hk.trans (of_decide_eq_true h13))]
   exact g_swept1 62 bb F' h a E _ (by kernel_rfl) (short_limit (good_pays hg).2.2) (hF _ _ (own_known hw (fun _ q => q) bb _ _ _ (.head _) 0 _ rfl)) (g_limit F' h ps a E hE hl hg)
 refine r_seq (by kernel_rfl) (s_val (v_eql (k := .i64) rfl rfl) (s_val (v_asB rfl) (s_nil (c_cond rfl rfl (fun h15 => ?_) (fun h15 => ?_)))))
 · refine r_list (by kernel_rfl) (s_val (v_assign (v := .func _ _ _) rfl) (s_end (n_bnormal (n_then (r_seq (by kernel_rfl) (s_val (v_move (v := .func _ _ _) rfl) (s_callE (by kernel_rfl) (fun w hw => g_swept 63 w) (fun v24 E24 hR24 => ?_))))))))
   obtain ⟨bb, rfl, rfl⟩ := hR24
   refine s_val (v_assign (v := .func _ _ _) rfl) (s_val (v_asB rfl) (s_nil (c_ret (n_doneTF rfl (by decide) (by decide) (fun w1 hw => ?_)))))
   refine ⟨_, true, rfl, (fun hh => by cases hh), fun _ => ⟨79, [.pointer (some ⟨bb, 0, none⟩)], rfl, by kernel_rfl, fun F' h ps a E hF hk hE hl hg => ?_⟩⟩
   rw [nx_fund hg (hk.trans (of_decide_eq_true h15))]
   exact g_swept1 63 bb F' h a E _ (by kernel_rfl) (short_fund (good_pays hg).2.2) (hF _ _ (own_known hw (fun _ q => q) bb _ _ _ (.head _) 0 _ rfl)) (g_fund F' h ps a E hE hl hg)
 refine r_seq (by kernel_rfl) (s_val (v_eql (k := .i64) rfl rfl) (s_val (v_asB rfl) (s_nil (c_cond rfl rfl (fun h17 => ?_) (fun h17 => ?_)))))
 · refine r_list (by kernel_rfl) (s_val (v_assign (v := .func _ _ _) rfl) (s_end (n_bnormal (n_then (r_seq (by kernel_rfl) (s_val (v_move (v := .func _ _ _) rfl) (s_callE (by kernel_rfl) (fun w hw => g_swept 64 w) (fun v24 E24 hR24 => ?_))))))))
   obtain ⟨bb, rfl, rfl⟩ := hR24
   refine s_val (v_assign (v := .func _ _ _) rfl) (s_val (v_asB rfl) (s_nil (c_ret (n_doneTF rfl (by decide) (by decide) (fun w1 hw => ?_)))))
   refine ⟨_, true, rfl, (fun hh => by cases hh), fun _ => ⟨79, [.pointer (some ⟨bb, 0, none⟩)], rfl, by kernel_rfl, fun F' h ps a E hF hk hE hl hg => ?_⟩⟩
   rw [nx_spend hg (hk.trans (of_decide_eq_true h17))]
   exact g_swept1 64 bb F' h a E _ (by kernel_rfl) (short_spend (good_pays hg).2.2) (hF _ _ (own_known hw (fun _ q => q) bb _ _ _ (.head _) 0 _ rfl)) (g_spend F' h ps a E hE hl hg)
 refine r_seq (by kernel_rfl) (s_val (v_eql (k := .i64) rfl rfl) (s_val (v_asB rfl) (s_nil (c_cond rfl rfl (fun h19 => ?_) (fun h19 => ?_)))))
 · refine r_list (by kernel_rfl) (s_val (v_assign (v := .func _ _ _) rfl) (s_end (n_bnormal (n_then (r_seq (by kernel_rfl) (s_val (v_move (v := .func _ _ _) rfl) (s_callE (by kernel_rfl) (fun w hw => g_swept 65 w) (fun v24 E24 hR24 => ?_))))))))
   obtain ⟨bb, rfl, rfl⟩ := hR24
   refine s_val (v_assign (v := .func _ _ _) rfl) (s_val (v_asB rfl) (s_nil (c_ret (n_doneTF rfl (by decide) (by decide) (fun w1 hw => ?_)))))
   refine ⟨_, true, rfl, (fun hh => by cases hh), fun _ => ⟨79, [.pointer (some ⟨bb, 0, none⟩)], rfl, by kernel_rfl, fun F' h ps a E hF hk hE hl hg => ?_⟩⟩
   rw [nx_untie hg (hk.trans (of_decide_eq_true h19))]
   exact g_swept1 65 bb F' h a E _ (by kernel_rfl) (short_untie (good_pays hg).2.2) (hF _ _ (own_known hw (fun _ q => q) bb _ _ _ (.head _) 0 _ rfl)) (g_untie F' h ps a E hE hl hg)
 refine r_seq (by kernel_rfl) (s_val (v_eql (k := .i64) rfl rfl) (s_val (v_asB rfl) (s_nil (c_cond rfl rfl (fun h21 => ?_) (fun h21 => ?_)))))
 · refine r_seq (by kernel_rfl) (s_val (v_assign (v := .func _ _ _) rfl) (s_val (v_asB rfl) (s_nil (c_ret (n_bret (n_ret (n_doneTF rfl (by decide) (by decide) (fun w1 hw => ?_))))))))
   refine ⟨_, true, rfl, (fun hh => by cases hh), fun _ => ⟨66, [], rfl, by kernel_rfl, fun F' h ps a E hF hk hE hl hg => ?_⟩⟩
   rw [nx_close hg (hk.trans (of_decide_eq_true h21))]
   exact g_closeAll F' h ps a E hE hl hg
 refine r_seq (by kernel_rfl) (s_val (v_assign (v := _) rfl) (s_val (v_asB rfl) (s_nil (c_ret (n_bret (n_ret (n_doneTF rfl (by decide) (by decide) (fun w1 hw => ?_))))))))
 refine ⟨_, false, rfl, fun _ => ?_, (fun hh => by cases hh)⟩
 have h5n := of_decide_eq_false h5
 have h7n := of_decide_eq_false h7
 have h9n := of_decide_eq_false h9
 have h11n := of_decide_eq_false h11
 have h13n := of_decide_eq_false h13
 have h15n := of_decide_eq_false h15
 have h17n := of_decide_eq_false h17
 have h19n := of_decide_eq_false h19
 have h21n := of_decide_eq_false h21
 omega
end Go.Proofs.YtmkboljfbmlebacGreat
namespace Go.Proofs.YtmkboljfbmlebacGreat
open Go.RowKit
set_option linter.unusedSimpArgs false
set_option linter.unusedVariables false
set_option maxRecDepth 100000
attribute [local irreducible] cC sC nC rC qw
set_option maxHeartbeats 1000000 in
theorem g_NextBad (F : Addr → Value → Prop) (h : H) (ps : List PayS) (a : ActS) (hp : PaysIn F h.pa h.pl ps) (hb : h.pl * 48 ≤ 281474976710656) (hgc : goodB h.core ps = false) : GivesV Tryz.prog 28 [.agg h.cells, .agg a.cells] F ([]) (NextV 3 (nextM h.core ps a)) := by
 refine givesV_of Tryz.func28 rfl Tryz.ntmps28 (by simp) (fun w K => ?_)
 refine r_seq (by kernel_rfl) (s_box (v := .agg _) rfl (fun b2 => ?_))
 refine s_box (v := .agg _) rfl (fun b3 => ?_)
 refine s_alloc (z := .agg zeroH.cells) (by kernel_rfl) (fun b4 => ?_)
 refine s_alloc (z := .agg (repC 0 0 (.slice none 0 0))) (by kernel_rfl) (fun b5 => ?_)
 refine s_nil (r_seq (by kernel_rfl) (s_val (v_loadA (m := 42) (by kernel_rfl) rfl (.there (.there (.there .here))) (H.size _)) (s_callE (by kernel_rfl) (fun w hw => g_ownP h ps w (hp.at hw) hb) (fun v9 E9 hR9 => ?_))))
 obtain ⟨pa9, pc9, rfl, hE9⟩ := hR9
 have hpe9 := hE9
 refine s_storeA (m := 42) (by kernel_rfl) rfl rfl (.app (.there (.there (.there .here)))) (H.size _) (H.size _) (H.all1 _) (s_nil (c_seq (r_seq (by kernel_rfl) (s_val (v_loadA (m := 42) (by kernel_rfl) rfl (.app (.there (.there (.there .here)))) (H.size _)) (s_call (by kernel_rfl) (fun w hw => g_Good _ ps w (hpe9.known (at_known hw (fun _ hq => (List.mem_append_left _ hq))))) (s_val (v_not rfl) (s_nil (c_condTh rfl rfl (congrArg not hgc) (t_seq (k := 2) (by kernel_rfl) (by kernel_rfl) (fun w hw => hw.drew) (by kernel_rfl) (q_val (v_loadA (m := 42) (by kernel_rfl) rfl (.app (.there (.there (.there .here)))) (H.size _)) (q_call (by kernel_rfl) (fun w hw => g_failed _ w) (q_tail (s_storeA (m := 42) (by kernel_rfl) rfl rfl (.app (.there .here)) (H.size _) (H.size _) (H.all1 _) (s_storeA (m := 3) (by kernel_rfl) rfl rfl (.app .here) rfl rfl rep_all (s_nil (c_ret (n_ret (n_doneV2 (m := 42) (m' := 3) rfl (by decide) (by decide) rfl rfl (by kernel_rfl) (by kernel_rfl) (.app (.there .here)) (.app .here) (H.size _) rep_size (fun w1 hw => ?_)))))))))))))))))))
 exact retV_own (h := ({ h with pa := pa9, pc := pc9 } : H)) (Ep := E9) (Ed := []) (hw.sub (List.Sublist.append (List.Sublist.refl _) (List.Sublist.cons _ (List.Sublist.cons _ (List.Sublist.cons _ (List.Sublist.cons _ (List.Sublist.refl _))))))) (fun _ _ h => h) hpe9.2.1 (fun _ hk => hpe9.known hk) (listE_nil _ _) (nx_bad hgc)
set_option maxHeartbeats 1000000 in
theorem g_NextGood (F : Addr → Value → Prop) (h : H) (ps : List PayS) (a : ActS) (hp : PaysIn F h.pa h.pl ps) (hb : h.pl * 48 ≤ 281474976710656) (hgc : goodB h.core ps = true) : GivesV Tryz.prog 28 [.agg h.cells, .agg a.cells] F ([]) (NextV 3 (nextM h.core ps a)) := by
 refine givesV_of Tryz.func28 rfl Tryz.ntmps28 (by simp) (fun w K => ?_)
 have h24 : h.pl ≤ 24 := by have := (good_pays hgc).2.2; have := hp.1; omega
 refine r_seq (by kernel_rfl) (s_box (v := .agg _) rfl (fun b2 => ?_))
 refine s_box (v := .agg _) rfl (fun b3 => ?_)
 refine s_alloc (z := .agg zeroH.cells) (by kernel_rfl) (fun b4 => ?_)
 refine s_alloc (z := .agg (repC 0 0 (.slice none 0 0))) (by kernel_rfl) (fun b5 => ?_)
 refine s_nil (r_seq (by kernel_rfl) (s_val (v_loadA (m := 42) (by kernel_rfl) rfl (.there (.there (.there .here))) (H.size _)) (s_callE (by kernel_rfl) (fun w hw => g_ownL h ps w (hp.at hw) h24) (fun v9 E9 hR9 => ?_))))
 obtain ⟨pa9, pc9, rfl, hE9⟩ := hR9
 have hpe9 := hE9.pays hp.1
 refine s_storeA (m := 42) (by kernel_rfl) rfl rfl (.app (.there (.there (.there .here)))) (H.size _) (H.size _) (H.all1 _) (s_nil (c_seq (r_seq (by kernel_rfl) (s_val (v_loadA (m := 42) (by kernel_rfl) rfl (.app (.there (.there (.there .here)))) (H.size _)) (s_call (by kernel_rfl) (fun w hw => g_Good _ ps w (hpe9.known (at_known hw (fun _ hq => (List.mem_append_left _ hq))))) (s_val (v_not rfl) (s_nil (c_condFh rfl rfl (congrArg not hgc) (c_skip (n_then (r_seq (by kernel_rfl) (s_val (v_fd 0 (by kernel_rfl) rfl) (s_val (v_ldI (by kernel_rfl) rfl (.app (.there (.there .here))) rfl) (s_callG (by kernel_rfl) (stepF_mono _ _ _ _) (fun w hw => g_stepOf a.kind w) (fun F18 v18 hF18 hR18 => ?_)))))))))))))))
 obtain ⟨fv, kn, rfl, hno, hyes⟩ := hR18
 refine s_val (v_move (v := .tuple _) rfl) (s_val (v_extract rfl rfl) (s_val (v_extract rfl rfl) (s_val (v_assign (v := _) rfl) (s_val (v_asB rfl) (s_nil (c_seq (r_seq (by kernel_rfl) (s_val (v_mvB rfl) (s_val (v_not rfl) (s_nil (c_condN rfl rfl (fun h22 => ?_) (fun h22 => ?_))))))))))))
 · have hkn := hno h22
   refine t_seq (k := 2) (by kernel_rfl) (by kernel_rfl) (fun w hw => hw.drew) (by kernel_rfl) (q_val (v_loadA (m := 42) (by kernel_rfl) rfl (.app (.there (.there (.there .here)))) (H.size _)) (q_call (by kernel_rfl) (fun w hw => g_failed _ w) (q_tail (s_storeA (m := 42) (by kernel_rfl) rfl rfl (.app (.there .here)) (H.size _) (H.size _) (H.all1 _) (s_storeA (m := 3) (by kernel_rfl) rfl rfl (.app .here) rfl rfl rep_all (s_nil (c_ret (n_ret (n_doneV2 (m := 42) (m' := 3) rfl (by decide) (by decide) rfl rfl (by kernel_rfl) (by kernel_rfl) (.app (.there .here)) (.app .here) (H.size _) rep_size (fun w1 hw => ?_))))))))))
   exact retV_own (h := ({ h with pa := pa9, pc := pc9 } : H)) (Ep := E9) (Ed := []) (hw.sub (List.Sublist.append (List.Sublist.refl _) (List.Sublist.cons _ (List.Sublist.cons _ (List.Sublist.cons _ (List.Sublist.cons _ (List.Sublist.refl _))))))) hF18 hpe9.2.1 (fun _ hk => hpe9.known hk) (listE_nil _ _) (nx_other hgc hkn)
 obtain ⟨k, caps, rfl, hbody, hst⟩ := hyes h22
 refine c_skip (n_then (r_seq (by kernel_rfl) (s_val (v_move (v := _) rfl) (s_val (v_loadA (m := 42) (by kernel_rfl) rfl (.app (.there (.there (.there .here)))) (H.size _)) (s_val (v_loadA (m := 5) (by kernel_rfl) rfl (.app (.there (.there .here))) rfl) (s_callVC rfl hbody (hst F18 ({ h with pa := pa9, pc := pc9 } : H) ps a E9 (more_young _ _) rfl hE9 hp.1 hgc) (fun F28 v28 E28 hF28 hR28 => ?_)))))))
 obtain ⟨h29, vd29, rfl, hc29, hlc29, hp29, hd29⟩ := hR28
 obtain ⟨a29, m29, c29, rfl⟩ := hd29.shape3
 refine s_val (v_extract rfl rfl) (s_val (v_extract rfl rfl) (s_storeA (m := 42) (by kernel_rfl) rfl rfl (.app (.there .here)) (H.size _) (H.size _) (H.all1 _) (s_storeA (m := 3) (by kernel_rfl) rfl rfl (.app .here) rfl rfl rep_all (s_nil (c_ret (n_doneV2 (m := 42) (m' := 3) rfl (by decide) (by decide) rfl rfl (by kernel_rfl) (by kernel_rfl) (.app (.there .here)) (.app .here) (H.size _) rep_size (fun w1 hw => ?_)))))))
 exact retV_known (hw.sub (List.Sublist.append (List.Sublist.refl _) (List.Sublist.cons _ (List.Sublist.cons _ (List.Sublist.cons _ (List.Sublist.cons _ (List.Sublist.refl _))))))) (fun a v h => hF28 a v (hF18 a v h)) hp29 hlc29 hd29 (by rw [hc29]; rfl)
theorem g_Next (F : Addr → Value → Prop) (h : H) (ps : List PayS) (a : ActS) (hp : PaysIn F h.pa h.pl ps) (hb : h.pl * 48 ≤ 281474976710656) : GivesV Tryz.prog 28 [.agg h.cells, .agg a.cells] F [] (NextV 3 (nextM h.core ps a)) := by
 cases hg : goodB h.core ps
 · exact g_NextBad F h ps a hp hb hg
 · exact g_NextGood F h ps a hp hb hg
theorem theNext (h : H) (ps : List PayS) (a : ActS) (w : World) (hp : PaysIn (At w) h.pa h.pl ps) (hb : h.pl * 48 ≤ 281474976710656) (hlc : h.pl ≤ h.pc) : GivesF Tryz.prog 28 [.agg h.cells, .agg a.cells] w (NextF h ps (nextM h.core ps a)) :=
 (g_Next (At w) h ps a hp hb).toF (nextV_mono _ _) nextV_F
end Go.Proofs.YtmkboljfbmlebacGreat
namespace Go.Proofs.YtmkboljfbmlebacGreat
open Go.RowKit
set_option linter.unusedSimpArgs false
set_option linter.unusedVariables false
set_option maxRecDepth 100000
attribute [local irreducible] cC sC nC rC qw
set_option maxHeartbeats 1000000 in
theorem g_Replay (a0 : Option Addr) (c0 : Nat) (xs : List ActS) (w : World) (hx : ActsAt (At w) a0 xs) (hlx : xs.length ≤ 9223372036854775807) : GivesF Tryz.prog 14 [.slice a0 xs.length c0] w (ReplayF xs) := by
 refine givesF_of Tryz.func14 rfl Tryz.ntmps14 (by simp) (r_seq (by kernel_rfl) (s_alloc (z := .agg zeroH.cells) (by kernel_rfl) (fun b2 => ?_)))
 refine s_nil (r_seq (by kernel_rfl) (s_call (by kernel_rfl) (fun w hw => g_New w) (s_alloc (z := .agg zeroH.cells) (by kernel_rfl) (fun b3 => ?_))))
 refine s_storeA (m := 42) (by kernel_rfl) rfl rfl .here (H.size _) (H.size _) (H.all1 _) (s_nil (c_seq (r_seq (by kernel_rfl) (s_val (v_move (v := .slice _ _ _) rfl) (s_val (v_lenS (T := 22) (m := 5) (by kernel_rfl) rfl rfl) (s_val (v_mvI rfl) (s_nil (c_block (c_loop (σ := RpG) (fun (t : RpG) f => ∃ g, (RpOk w xs t) ∧ f = (upd (upd (upd (upd (upd g 2 (.pointer (some ⟨b2, 0, none⟩))) 3 (.pointer (some ⟨b3, 0, none⟩))) 7 (.slice a0 xs.length c0)) 8 (I xs.length)) 9 (I t.k))) (fun (t : RpG) => Has w t.F [(b3, .cells t.h.cells 43), (b2, .cells zeroH.cells 43)]) (fun (t : RpG) => xs.length - t.k) ⟨At w, newM, 0⟩ ⟨_, rpOk_start, live5 rfl rfl rfl rfl rfl⟩ (fun w hw => hw) ?_)))))))))
 rintro t _ ⟨g, ho, rfl⟩
 refine r_seq (by kernel_rfl) (s_val (v_lsI rfl rfl) (s_nil (c_seq (c_condR rfl rfl (fun h10 => ?_) (fun h10 => ?_)))))
 · have hkl : t.k = xs.length := by have := of_decide_eq_false h10; have := ho.k; omega
   refine c_exit (n_exit (n_exit (n_bhere (n_then (r_seq (by kernel_rfl) (s_val (v_loadA (m := 42) (by kernel_rfl) rfl .here (H.size _)) (s_storeA (m := 42) (by kernel_rfl) rfl rfl (.there .here) (H.size _) (H.size _) (H.all1 _) (s_nil (c_ret (n_doneCF (m := 42) rfl (by decide) rfl (by kernel_rfl) (.there .here) (H.size _) (fun w hw => ⟨t.h, rfl, ?_, ho.lc, ho.len, ?_⟩)))))))))))
   · have := ho.core; rw [hkl, List.take_length] at this; exact this
   · have := ho.pays; rw [hkl, List.take_length] at this; exact this.mono (young_fresh hw)
 have hk0 := of_decide_eq_true h10
 obtain ⟨bx, ox, x, hax, hxk, hxc⟩ := hx.get (j := t.k) (by omega)
 have hpl24 := ho.len
 refine c_skip (n_then (c_seq (c_block (r_seq (by kernel_rfl) (s_val (v_idxS (size := 5) (k := .i64) (by kernel_rfl) (congrArg (fun a => Value.slice a xs.length c0) hax) rfl ⟨by omega, by omega⟩) (s_val (v_loadNo (cs := x.cells) (m := 5) (by kernel_rfl) rfl rfl (fun k v hv => ho.more _ _ (hxc k v hv))) (s_alloc (z := zeroOf Tryz.prog 34) (by kernel_rfl) (fun b5 => ?_))))))))
 refine s_storeA (m := 5) (by kernel_rfl) rfl rfl .here (by kernel_rfl) rfl (ActS.all1 _) (s_nil (r_list (by kernel_rfl) (s_val (v_loadA (m := 42) (by kernel_rfl) rfl (.there .here) (H.size _)) (s_val (v_loadA (m := 5) (by kernel_rfl) rfl .here rfl) (s_callG (by kernel_rfl) (nextF_mono _ _ _) (fun w hw => theNext t.h (replayM (xs.take t.k)).2 x w ((ho.pays.mono (more_young _ _)).at hw) (by omega) ho.lc) (fun F16 v16 hF16 hR16 => ?_))))))
 obtain ⟨v17, v18, rfl, ⟨h17, rfl, hc17, hlc17, hp17⟩, a18, c18, rfl, _⟩ := hR16
 refine s_val (v_move (v := .tuple _) rfl) (s_val (v_extract rfl rfl) (s_val (v_extract rfl rfl) (s_storeA (m := 42) (by kernel_rfl) rfl rfl (.there .here) (H.size _) (H.size _) (H.all1 _) (s_end (n_bnormal (n_then (r_list (by kernel_rfl) (s_val (v_add rfl rfl (by omega)) (s_val (v_mvI rfl) (s_end (n_round (s := t) ⟨F16, h17, t.k + 1⟩ ⟨_, ho.step hxk hF16 rfl hc17 hlc17 hp17, live5 rfl rfl rfl rfl rfl⟩ (fun _ hw => hw.tail) (by have := ho.k; dsimp only; omega))))))))))))
end Go.Proofs.YtmkboljfbmlebacGreat
