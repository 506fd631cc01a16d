/- What the laws of this place stand on, part 10. Each part names its own conditions in what it states. -/
import Derived.Test.YtmkboljfbmlebacQ9
namespace Go.Proofs.Ytmkboljfbmlebac
open Go.RowKit
set_option linter.unusedSimpArgs false
set_option linter.unusedVariables false
set_option maxRecDepth 100000
attribute [local irreducible] cC sC nC rC qw
set_option maxHeartbeats 1000000 in
theorem g_pay (F : Addr → Value → Prop) (h : H) (ps : List PayS) (a : ActS) (E : List (Nat × Obj)) (hE : ListE 65 6 (.slice h.pa h.pl h.pc) h.pl (flatC ps) E) (hl : ps.length = h.pl) (hgc : goodB h.core ps = true) : GivesV Try.prog 40 [.agg h.cells, .agg a.cells] F (E) (NextV 3 (payM h.core ps a)) := by
 refine givesV_of Try.func40 rfl Try.ntmps40 (by simp) (fun w K => ?_)
 have hpe := hE.pays hl
 have h24 : h.pl ≤ 24 := by have := (good_pays hgc).2.2; omega
 have hnx : 0 ≤ h.next ∧ h.next ≤ 1048576 := (good_iff.1 hgc).next
 refine r_seq (by kernel_rfl) ?_
 refine s_box (v := .agg _) rfl (fun b2 => ?_)
 refine s_box (v := .agg _) rfl (fun b3 => ?_)
 refine s_alloc (z := .agg zeroH.cells) (by kernel_rfl) (fun b4 => ?_)
 refine s_alloc (z := .agg (repC 0 0 (.slice none 0 0))) (by kernel_rfl) (fun b5 => ?_)
 refine s_nil ?_
 refine r_seq (by kernel_rfl) ?_
 refine s_val (v_field (fo := 1) (by kernel_rfl) rfl) ?_
 refine s_val (v_load1 (v := .int .i64 _) (by kernel_rfl) rfl (.there (.there .here)) rfl) ?_
 refine s_val (v_field (fo := 2) (by kernel_rfl) rfl) ?_
 refine s_val (v_load1 (v := .int .i64 _) (by kernel_rfl) rfl (.there (.there .here)) rfl) ?_
 refine s_val (v_field (fo := 4) (by kernel_rfl) rfl) ?_
 refine s_val (v_load1 (v := .int .i64 _) (by kernel_rfl) rfl (.there (.there .here)) rfl) ?_
 refine s_val (v_field (fo := 3) (by kernel_rfl) rfl) ?_
 refine s_val (v_load1 (v := .int .i64 _) (by kernel_rfl) rfl (.there (.there .here)) rfl) ?_
 refine s_val (v_field (fo := 41) (by kernel_rfl) rfl) ?_
 refine s_val (v_load1 (v := .int .i64 _) (by kernel_rfl) rfl (.there (.there (.there .here))) (H.at_next _)) ?_
 refine s_val (v_build (vs := [(0, .int .i64 _), (1, .int .i64 _), (2, .int .i64 _), (3, .int .i64 _), (4, .int .i64 _), (5, .int .i64 _)]) (cs := (PayS.cells ⟨a.a, a.b, a.n, a.c, 1, h.next⟩)) rfl (by kernel_rfl)) ?_
 refine s_alloc (z := zeroOf Try.prog 65) (by kernel_rfl) (fun b6 => ?_)
 refine s_storeA (m := 6) (by kernel_rfl) rfl rfl .here (by kernel_rfl) rfl (PayS.all1 _) ?_
 refine s_nil ?_
 refine c_seq ?_
 refine r_seq (by kernel_rfl) ?_
 refine s_val (v_loadA (m := 6) (by kernel_rfl) rfl .here rfl) ?_
 refine s_call (by kernel_rfl) (fun w hw => g_GoodPay _ w) ?_
 refine s_val (v_not rfl) ?_
 refine s_nil ?_
 refine c_condN rfl rfl (fun h21 => ?_) (fun h21 => ?_)
 · have q1 : goodPayB (newPay h.core a) = false := h21
   refine t_seq (k := 2) (by kernel_rfl) (by kernel_rfl) (fun w hw => hw.drew) (by kernel_rfl) ?_
   refine q_val (v_loadA (m := 42) (by kernel_rfl) rfl (.there (.there (.there (.there .here)))) (H.size _)) ?_
   refine q_call (by kernel_rfl) (fun w hw => g_failed _ w) ?_
   refine q_tail ?_
   refine s_storeA (m := 42) (by kernel_rfl) rfl rfl (.there (.there .here)) (H.size _) (H.size _) (H.all1 _) ?_
   refine s_storeA (m := 3) (by kernel_rfl) rfl rfl (.there .here) rfl rfl rep_all ?_
   refine s_nil ?_
   refine c_ret ?_
   refine n_ret ?_
   refine n_doneV2 (m := 42) (m' := 3) rfl (by decide) (by decide) rfl rfl (by kernel_rfl) (by kernel_rfl) (.there (.there .here)) (.there .here) (H.size _) rep_size (fun w1 hw => ?_)
   exact retV_own (Ep := E) (Ed := []) (hw.sub (List.Sublist.cons _ (List.Sublist.cons _ (List.Sublist.cons _ (List.Sublist.cons _ (List.Sublist.cons _ (List.Sublist.append (List.Sublist.refl _) (List.Sublist.refl _)))))))) (fun _ _ h => h) hpe.2.1 (fun _ hk => hpe.known hk) (listE_nil _ _) (by simp only [payM, h21, q1, cond_true, cond_false, Bool.not_true, Bool.not_false, Bool.or_true, Bool.true_or, Bool.or_false, Bool.false_or]; rfl)
 have q1 : goodPayB (newPay h.core a) = true := h21
 refine c_skip ?_
 refine n_then ?_
 refine c_seq ?_
 refine r_seq (by kernel_rfl) ?_
 refine s_val (v_field (fo := 40) (by kernel_rfl) rfl) ?_
 refine s_val (v_load1 (v := .slice _ _ _) (by kernel_rfl) rfl (.there (.there (.there (.there .here)))) (H.at_pays _)) ?_
 refine s_val (v_lenS (T := 45) (m := 6) (by kernel_rfl) rfl rfl) ?_
 refine s_val (v_geq (k := .i64) rfl rfl) ?_
 refine s_val (v_move (v := .bool _) rfl) ?_
 refine s_split (s := 28) rfl (fun h28 => ?_) (fun h28 => ?_)
 · have q2 : decide (ps.length = 24) = true := decide_eq_true (by have := of_decide_eq_true h28; omega)
   refine s_pass rfl rfl h28 ?_
   refine s_pass rfl rfl h28 ?_
   refine s_pass rfl rfl h28 ?_
   refine s_val (v_pickT (v := .bool _) rfl h28 rfl) ?_
   refine s_nil ?_
   refine c_condTh rfl rfl rfl ?_
   refine t_seq (k := 2) (by kernel_rfl) (by kernel_rfl) (fun w hw => hw.drew) (by kernel_rfl) ?_
   refine q_val (v_loadA (m := 42) (by kernel_rfl) rfl (.there (.there (.there (.there .here)))) (H.size _)) ?_
   refine q_call (by kernel_rfl) (fun w hw => g_failed _ w) ?_
   refine q_tail ?_
   refine s_storeA (m := 42) (by kernel_rfl) rfl rfl (.there (.there .here)) (H.size _) (H.size _) (H.all1 _) ?_
   refine s_storeA (m := 3) (by kernel_rfl) rfl rfl (.there .here) rfl rfl rep_all ?_
   refine s_nil ?_
   refine c_ret ?_
   refine n_ret ?_
   refine n_doneV2 (m := 42) (m' := 3) rfl (by decide) (by decide) rfl rfl (by kernel_rfl) (by kernel_rfl) (.there (.there .here)) (.there .here) (H.size _) rep_size (fun w1 hw => ?_)
   exact retV_own (Ep := E) (Ed := []) (hw.sub (List.Sublist.cons _ (List.Sublist.cons _ (List.Sublist.cons _ (List.Sublist.cons _ (List.Sublist.cons _ (List.Sublist.append (List.Sublist.refl _) (List.Sublist.refl _)))))))) (fun _ _ h => h) hpe.2.1 (fun _ hk => hpe.known hk) (listE_nil _ _) (by simp only [payM, h21, h28, q1, q2, cond_true, cond_false, Bool.not_true, Bool.not_false, Bool.or_true, Bool.true_or, Bool.or_false, Bool.false_or]; rfl)
 have q2 : decide (ps.length = 24) = false := decide_eq_false (by have := of_decide_eq_false h28; omega)
 refine s_want rfl rfl h28 ?_
 refine s_val (v_field (fo := 41) (by kernel_rfl) rfl) ?_
 refine s_want rfl rfl h28 ?_
 refine s_val (v_load1 (v := .int .i64 _) (by kernel_rfl) rfl (.there (.there (.there (.there .here)))) (H.at_next _)) ?_
 refine s_want rfl rfl h28 ?_
 refine s_val (v_geq (k := .i64) rfl rfl) ?_
 refine s_val (v_pickF (v := .bool _) rfl h28 rfl) ?_
 refine s_nil ?_
 refine c_cond rfl rfl (fun h32 => ?_) (fun h32 => ?_)
 · have q3 : decide (h.core.next = 1048576) = true := decide_eq_true (by have := of_decide_eq_true h32; show h.next = _; omega)
   refine t_seq (k := 2) (by kernel_rfl) (by kernel_rfl) (fun w hw => hw.drew) (by kernel_rfl) ?_
   refine q_val (v_loadA (m := 42) (by kernel_rfl) rfl (.there (.there (.there (.there .here)))) (H.size _)) ?_
   refine q_call (by kernel_rfl) (fun w hw => g_failed _ w) ?_
   refine q_tail ?_
   refine s_storeA (m := 42) (by kernel_rfl) rfl rfl (.there (.there .here)) (H.size _) (H.size _) (H.all1 _) ?_
   refine s_storeA (m := 3) (by kernel_rfl) rfl rfl (.there .here) rfl rfl rep_all ?_
   refine s_nil ?_
   refine c_ret ?_
   refine n_ret ?_
   refine n_doneV2 (m := 42) (m' := 3) rfl (by decide) (by decide) rfl rfl (by kernel_rfl) (by kernel_rfl) (.there (.there .here)) (.there .here) (H.size _) rep_size (fun w1 hw => ?_)
   exact retV_own (Ep := E) (Ed := []) (hw.sub (List.Sublist.cons _ (List.Sublist.cons _ (List.Sublist.cons _ (List.Sublist.cons _ (List.Sublist.cons _ (List.Sublist.append (List.Sublist.refl _) (List.Sublist.refl _)))))))) (fun _ _ h => h) hpe.2.1 (fun _ hk => hpe.known hk) (listE_nil _ _) (by simp only [payM, h21, h28, h32, q1, q2, q3, cond_true, cond_false, Bool.not_true, Bool.not_false, Bool.or_true, Bool.true_or, Bool.or_false, Bool.false_or]; rfl)
 have q3 : decide (h.core.next = 1048576) = false := decide_eq_false (by have := of_decide_eq_false h32; show ¬ h.next = _; omega)
 refine c_skip ?_
 refine n_then ?_
 refine r_seq (by kernel_rfl) ?_
 refine s_val (v_field (fo := 40) (by kernel_rfl) rfl) ?_
 refine s_val (v_load1 (v := .slice _ _ _) (by kernel_rfl) rfl (.there (.there (.there (.there .here)))) (H.at_pays _)) ?_
 refine s_val (v_lenS (T := 45) (m := 6) (by kernel_rfl) rfl rfl) ?_
 refine s_val (v_assign (v := .int .i64 _) rfl) ?_
 refine s_nil ?_
 refine c_weak (fun w hw => hw.perm (perm_front (A := [_, _, _, _, _]) (E := E))) ?_
 refine r_seq (by kernel_rfl) ?_
 refine s_val (v_field (fo := 40) (by kernel_rfl) rfl) ?_
 refine s_val (v_load1 (v := .slice _ _ _) (by kernel_rfl) rfl (.app (.there (.there (.there (.there .here))))) (H.at_pays _)) ?_
 refine s_val (v_loadA (m := 6) (by kernel_rfl) rfl (.app .here) rfl) ?_
 refine s_build1 (v := .agg _) (e := 65) (m := 6) (by_ := 48) (by kernel_rfl) rfl rfl rfl (fill_one rfl) (fun b41 => ?_)
 refine s_push (e := 65) (m := 6) (by_ := 48) (by kernel_rfl) rfl rfl rfl rfl rfl hE rfl (PayS.all1 _) (by omega) (fun v42 E42 hE42 => ?_)
 obtain ⟨a42, c42, rfl⟩ := hE42.shape
 have hpe42 : PaysE a42 (h.pl + 1) c42 (ps ++ [newPay h.core a]) E42 := ListE.pays (by rw [← flatC_snoc]; exact hE42) (by simp [hl])
 refine s_val (v_field (fo := 40) (by kernel_rfl) rfl) ?_
 refine s_store1 (v := _) (by kernel_rfl) rfl rfl (.app (.there (.there (.there (.there .here))))) (H.set_pays _) rfl ?_
 refine s_nil ?_
 refine r_seq (by kernel_rfl) ?_
 refine s_val (v_field (fo := 41) (by kernel_rfl) rfl) ?_
 refine s_val (v_load1 (v := .int .i64 _) (by kernel_rfl) rfl (.app (.there (.there (.there (.there .here))))) (H.at_next _)) ?_
 refine s_val (v_add rfl rfl (by (try dsimp only); omega)) ?_
 refine s_val (v_field (fo := 41) (by kernel_rfl) rfl) ?_
 refine s_store1 (v := .int .i64 _) (by kernel_rfl) rfl rfl (.app (.there (.there (.there (.there .here))))) (H.set_next _) rfl ?_
 refine s_nil ?_
 refine r_seq (by kernel_rfl) ?_
 refine s_val (v_loadA (m := 42) (by kernel_rfl) rfl (.app (.there (.there (.there (.there .here))))) (H.size _)) ?_
 refine s_val (v_move (v := .int .i64 _) rfl) ?_
 refine s_val (v_build (vs := [(1, .int .i64 _)]) (cs := repC 0 (h.pl : Int) (.slice none 0 0)) rfl (by kernel_rfl)) ?_
 refine s_storeA (m := 42) (by kernel_rfl) rfl rfl (.app (.there (.there .here))) (H.size _) (H.size _) (H.all1 _) ?_
 refine s_storeA (m := 3) (by kernel_rfl) rfl rfl (.app (.there .here)) rfl rfl rep_all ?_
 refine s_nil ?_
 refine c_ret ?_
 refine n_doneV2 (m := 42) (m' := 3) rfl (by decide) (by decide) rfl rfl (by kernel_rfl) (by kernel_rfl) (.app (.there (.there .here))) (.app (.there .here)) (H.size _) rep_size (fun w1 hw => ?_)
 exact retV_own (Ep := E42) (Ed := []) (hw.sub (List.Sublist.append (List.Sublist.refl _) (List.Sublist.cons _ (List.Sublist.cons _ (List.Sublist.cons _ (List.Sublist.cons _ (List.Sublist.cons _ (List.Sublist.refl _)))))))) (fun _ _ h => h) hpe42.2.1 (fun _ hk => hpe42.known hk) (listE_nil _ _) (by simp only [payM, h21, h28, h32, q1, q2, q3, cond_true, cond_false, Bool.not_true, Bool.not_false, Bool.or_true, Bool.true_or, Bool.or_false, Bool.false_or]; rw [hl]; rfl)
set_option maxHeartbeats 1000000 in
theorem g_revoke (F : Addr → Value → Prop) (h : H) (ps : List PayS) (a : ActS) (E : List (Nat × Obj)) (hE : ListE 65 6 (.slice h.pa h.pl h.pc) h.pl (flatC ps) E) (hl : ps.length = h.pl) (hgc : goodB h.core ps = true) : GivesV Try.prog 41 [.agg h.cells, .agg a.cells] F (E) (NextV 3 (revokeM h.core ps a)) := by
 refine givesV_of Try.func41 rfl Try.ntmps41 (by simp) (fun w K => ?_)
 have hpe := hE.pays hl
 have h24 : h.pl ≤ 24 := by have := (good_pays hgc).2.2; omega
 have hnx : 0 ≤ h.next ∧ h.next ≤ 1048576 := (good_iff.1 hgc).next
 refine r_seq (by kernel_rfl) ?_
 refine s_box (v := .agg _) rfl (fun b2 => ?_)
 refine s_box (v := .agg _) rfl (fun b3 => ?_)
 refine s_alloc (z := .agg zeroH.cells) (by kernel_rfl) (fun b4 => ?_)
 refine s_alloc (z := .agg (repC 0 0 (.slice none 0 0))) (by kernel_rfl) (fun b5 => ?_)
 refine s_nil ?_
 refine c_seq ?_
 refine r_seq (by kernel_rfl) ?_
 refine s_val (v_loadA (m := 42) (by kernel_rfl) rfl (.there (.there (.there .here))) (H.size _)) ?_
 refine s_val (v_field (fo := 1) (by kernel_rfl) rfl) ?_
 refine s_val (v_load1 (v := .int .i64 _) (by kernel_rfl) rfl (.there (.there .here)) rfl) ?_
 refine s_call (by kernel_rfl) (fun w hw => g_isQueued h ps (a.a) w (hpe.known (at_known hw (fun _ hq => (List.mem_cons_of_mem _ (List.mem_cons_of_mem _ (List.mem_cons_of_mem _ (List.mem_cons_of_mem _ (List.mem_append_left _ hq)))))))) (by omega)) ?_
 refine s_val (v_not rfl) ?_
 refine s_nil ?_
 refine c_condN rfl rfl (fun h10 => ?_) (fun h10 => ?_)
 · have hset := waits_none h10
   refine t_seq (k := 2) (by kernel_rfl) (by kernel_rfl) (fun w hw => hw.drew) (by kernel_rfl) ?_
   refine q_val (v_loadA (m := 42) (by kernel_rfl) rfl (.there (.there (.there .here))) (H.size _)) ?_
   refine q_call (by kernel_rfl) (fun w hw => g_failed _ w) ?_
   refine q_tail ?_
   refine s_storeA (m := 42) (by kernel_rfl) rfl rfl (.there .here) (H.size _) (H.size _) (H.all1 _) ?_
   refine s_storeA (m := 3) (by kernel_rfl) rfl rfl .here rfl rfl rep_all ?_
   refine s_nil ?_
   refine c_ret ?_
   refine n_ret ?_
   refine n_doneV2 (m := 42) (m' := 3) rfl (by decide) (by decide) rfl rfl (by kernel_rfl) (by kernel_rfl) (.there .here) .here (H.size _) rep_size (fun w1 hw => ?_)
   exact retV_own (Ep := E) (Ed := []) (hw.sub (List.Sublist.cons _ (List.Sublist.cons _ (List.Sublist.cons _ (List.Sublist.cons _ (List.Sublist.append (List.Sublist.refl _) (List.Sublist.refl _))))))) (fun _ _ h => h) hpe.2.1 (fun _ hk => hpe.known hk) (listE_nil _ _) (by simp only [revokeM, h10, hset, cond_true, cond_false, Bool.not_true, Bool.not_false, Bool.or_true, Bool.true_or, Bool.or_false, Bool.false_or]; rfl)
 obtain ⟨p, hset⟩ := waits_some h10
 obtain ⟨hn0, hpn, hps⟩ := settles_spec hset
 have hlt : a.a.toNat < h.pl := by have := (List.getElem?_eq_some_iff.1 hpn).1; omega
 obtain ⟨bE, tE, csE, hpaE, rfl, hszE, hcsE⟩ := hpe.some (by omega)
 have hleE := hpe.2.1
 refine c_skip ?_
 refine n_then ?_
 refine r_seq (by kernel_rfl) ?_
 refine s_val (v_field (fo := 40) (by kernel_rfl) rfl) ?_
 refine s_val (v_load1 (v := .slice _ _ _) (by kernel_rfl) rfl (.there (.there (.there .here))) (H.at_pays _)) ?_
 refine s_val (v_field (fo := 1) (by kernel_rfl) rfl) ?_
 refine s_val (v_load1 (v := .int .i64 _) (by kernel_rfl) rfl (.there (.there .here)) rfl) ?_
 refine s_val (v_idxS (size := 6) (k := .i64) (by kernel_rfl) (congrArg (fun a => Value.slice a h.pl h.pc) hpaE) rfl ⟨by omega, by omega⟩) ?_
 refine s_val (v_field (fo := 4) (by kernel_rfl) rfl) ?_
 refine s_store1 (v := .int .i64 _) (by kernel_rfl) rfl rfl (.there (.there (.there (.there .here)))) ⟨by rw [hszE]; omega, rfl⟩ rfl ?_
 refine s_nil ?_
 refine r_seq (by kernel_rfl) ?_
 refine s_val (v_loadA (m := 42) (by kernel_rfl) rfl (.there (.there (.there .here))) (H.size _)) ?_
 refine s_val (v_build (vs := []) (cs := repC 0 0 (.slice none 0 0)) rfl (by kernel_rfl)) ?_
 refine s_storeA (m := 42) (by kernel_rfl) rfl rfl (.there .here) (H.size _) (H.size _) (H.all1 _) ?_
 refine s_storeA (m := 3) (by kernel_rfl) rfl rfl .here rfl rfl rep_all ?_
 refine s_nil ?_
 refine c_ret ?_
 refine n_doneV2 (m := 42) (m' := 3) rfl (by decide) (by decide) rfl rfl (by kernel_rfl) (by kernel_rfl) (.there .here) .here (H.size _) rep_size (fun w1 hw => ?_)
 have hpe2 : PaysE h.pa h.pl h.pc _ _ := ⟨by rw [List.length_set]; exact hl, hleE, .inr ⟨bE, tE, _, hpaE, rfl, by simp only [Array.size_setIfInBounds]; exact hszE, hcsE.sta hpn 3⟩⟩
 exact retV_own (Ed := []) (hw.sub (List.Sublist.cons _ (List.Sublist.cons _ (List.Sublist.cons _ (List.Sublist.cons _ (List.Sublist.cons_cons _ (List.Sublist.refl _))))))) (fun _ _ h => h) hleE (fun _ hk => hpe2.known hk) (listE_nil _ _) (by simp only [revokeM, h10, hset, cond_true, cond_false, Bool.not_true, Bool.not_false, Bool.or_true, Bool.true_or, Bool.or_false, Bool.false_or]; rfl)
set_option maxHeartbeats 1000000 in
theorem g_class (F : Addr → Value → Prop) (h : H) (ps : List PayS) (a : ActS) (E : List (Nat × Obj)) (hE : ListE 65 6 (.slice h.pa h.pl h.pc) h.pl (flatC ps) E) (hl : ps.length = h.pl) (hgc : goodB h.core ps = true) : GivesV Try.prog 42 [.agg h.cells, .agg a.cells] F (E) (NextV 3 (classM h.core ps a)) := by
 refine givesV_of Try.func42 rfl Try.ntmps42 (by simp) (fun w K => ?_)
 have hpe := hE.pays hl
 have h24 : h.pl ≤ 24 := by have := (good_pays hgc).2.2; omega
 have hnx : 0 ≤ h.next ∧ h.next ≤ 1048576 := (good_iff.1 hgc).next
 refine r_seq (by kernel_rfl) ?_
 refine s_box (v := .agg _) rfl (fun b2 => ?_)
 refine s_box (v := .agg _) rfl (fun b3 => ?_)
 refine s_alloc (z := .agg zeroH.cells) (by kernel_rfl) (fun b4 => ?_)
 refine s_alloc (z := .agg (repC 0 0 (.slice none 0 0))) (by kernel_rfl) (fun b5 => ?_)
 refine s_nil ?_
 refine c_seq ?_
 refine r_seq (by kernel_rfl) ?_
 refine s_val (v_loadA (m := 42) (by kernel_rfl) rfl (.there (.there (.there .here))) (H.size _)) ?_
 refine s_val (v_field (fo := 1) (by kernel_rfl) rfl) ?_
 refine s_val (v_load1 (v := .int .i64 _) (by kernel_rfl) rfl (.there (.there .here)) rfl) ?_
 refine s_call (by kernel_rfl) (fun w hw => g_isQueued h ps (a.a) w (hpe.known (at_known hw (fun _ hq => (List.mem_cons_of_mem _ (List.mem_cons_of_mem _ (List.mem_cons_of_mem _ (List.mem_cons_of_mem _ (List.mem_append_left _ hq)))))))) (by omega)) ?_
 refine s_val (v_not rfl) ?_
 refine s_nil ?_
 refine c_condN rfl rfl (fun h10 => ?_) (fun h10 => ?_)
 · have hset := waits_none h10
   refine t_seq (k := 2) (by kernel_rfl) (by kernel_rfl) (fun w hw => hw.drew) (by kernel_rfl) ?_
   refine q_val (v_loadA (m := 42) (by kernel_rfl) rfl (.there (.there (.there .here))) (H.size _)) ?_
   refine q_call (by kernel_rfl) (fun w hw => g_failed _ w) ?_
   refine q_tail ?_
   refine s_storeA (m := 42) (by kernel_rfl) rfl rfl (.there .here) (H.size _) (H.size _) (H.all1 _) ?_
   refine s_storeA (m := 3) (by kernel_rfl) rfl rfl .here rfl rfl rep_all ?_
   refine s_nil ?_
   refine c_ret ?_
   refine n_ret ?_
   refine n_doneV2 (m := 42) (m' := 3) rfl (by decide) (by decide) rfl rfl (by kernel_rfl) (by kernel_rfl) (.there .here) .here (H.size _) rep_size (fun w1 hw => ?_)
   exact retV_own (Ep := E) (Ed := []) (hw.sub (List.Sublist.cons _ (List.Sublist.cons _ (List.Sublist.cons _ (List.Sublist.cons _ (List.Sublist.append (List.Sublist.refl _) (List.Sublist.refl _))))))) (fun _ _ h => h) hpe.2.1 (fun _ hk => hpe.known hk) (listE_nil _ _) (by simp only [classM, h10, hset, cond_true, cond_false, Bool.not_true, Bool.not_false, Bool.or_true, Bool.true_or, Bool.or_false, Bool.false_or]; rfl)
 obtain ⟨p, hset⟩ := waits_some h10
 obtain ⟨hn0, hpn, hps⟩ := settles_spec hset
 have hlt : a.a.toNat < h.pl := by have := (List.getElem?_eq_some_iff.1 hpn).1; omega
 obtain ⟨bE, tE, csE, hpaE, rfl, hszE, hcsE⟩ := hpe.some (by omega)
 have hleE := hpe.2.1
 refine c_skip ?_
 refine n_then ?_
 refine c_seq ?_
 refine r_seq (by kernel_rfl) ?_
 refine s_val (v_field (fo := 3) (by kernel_rfl) rfl) ?_
 refine s_val (v_load1 (v := .int .i64 _) (by kernel_rfl) rfl (.there (.there .here)) rfl) ?_
 refine s_call (by kernel_rfl) (fun w hw => g_withinB _ _ _ w) ?_
 refine s_val (v_not rfl) ?_
 refine s_nil ?_
 refine c_condN rfl rfl (fun h16 => ?_) (fun h16 => ?_)
 · refine t_seq (k := 2) (by kernel_rfl) (by kernel_rfl) (fun w hw => hw.drew) (by kernel_rfl) ?_
   refine q_val (v_loadA (m := 42) (by kernel_rfl) rfl (.there (.there (.there .here))) (H.size _)) ?_
   refine q_call (by kernel_rfl) (fun w hw => g_failed _ w) ?_
   refine q_tail ?_
   refine s_storeA (m := 42) (by kernel_rfl) rfl rfl (.there .here) (H.size _) (H.size _) (H.all1 _) ?_
   refine s_storeA (m := 3) (by kernel_rfl) rfl rfl .here rfl rfl rep_all ?_
   refine s_nil ?_
   refine c_ret ?_
   refine n_ret ?_
   refine n_doneV2 (m := 42) (m' := 3) rfl (by decide) (by decide) rfl rfl (by kernel_rfl) (by kernel_rfl) (.there .here) .here (H.size _) rep_size (fun w1 hw => ?_)
   exact retV_own (Ep := [(bE, .cells csE tE (0, 0))]) (Ed := []) (hw.sub (List.Sublist.cons _ (List.Sublist.cons _ (List.Sublist.cons _ (List.Sublist.cons _ (List.Sublist.cons_cons _ (List.Sublist.refl _))))))) (fun _ _ h => h) hpe.2.1 (fun _ hk => hpe.known hk) (listE_nil _ _) (by simp only [classM, h10, h16, hset, cond_true, cond_false, Bool.not_true, Bool.not_false, Bool.or_true, Bool.true_or, Bool.or_false, Bool.false_or]; rfl)
 refine c_skip ?_
 refine n_then ?_
 refine c_seq ?_
 refine r_seq (by kernel_rfl) ?_
 refine s_val (v_field (fo := 41) (by kernel_rfl) rfl) ?_
 refine s_val (v_load1 (v := .int .i64 _) (by kernel_rfl) rfl (.there (.there (.there .here))) (H.at_next _)) ?_
 refine s_val (v_geq (k := .i64) rfl rfl) ?_
 refine s_nil ?_
 refine c_cond rfl rfl (fun h21 => ?_) (fun h21 => ?_)
 · have q3 : decide (h.core.next = 1048576) = true := decide_eq_true (by have := of_decide_eq_true h21; show h.next = _; omega)
   refine t_seq (k := 2) (by kernel_rfl) (by kernel_rfl) (fun w hw => hw.drew) (by kernel_rfl) ?_
   refine q_val (v_loadA (m := 42) (by kernel_rfl) rfl (.there (.there (.there .here))) (H.size _)) ?_
   refine q_call (by kernel_rfl) (fun w hw => g_failed _ w) ?_
   refine q_tail ?_
   refine s_storeA (m := 42) (by kernel_rfl) rfl rfl (.there .here) (H.size _) (H.size _) (H.all1 _) ?_
   refine s_storeA (m := 3) (by kernel_rfl) rfl rfl .here rfl rfl rep_all ?_
   refine s_nil ?_
   refine c_ret ?_
   refine n_ret ?_
   refine n_doneV2 (m := 42) (m' := 3) rfl (by decide) (by decide) rfl rfl (by kernel_rfl) (by kernel_rfl) (.there .here) .here (H.size _) rep_size (fun w1 hw => ?_)
   exact retV_own (Ep := [(bE, .cells csE tE (0, 0))]) (Ed := []) (hw.sub (List.Sublist.cons _ (List.Sublist.cons _ (List.Sublist.cons _ (List.Sublist.cons _ (List.Sublist.cons_cons _ (List.Sublist.refl _))))))) (fun _ _ h => h) hpe.2.1 (fun _ hk => hpe.known hk) (listE_nil _ _) (by simp only [classM, h10, h16, h21, hset, q3, cond_true, cond_false, Bool.not_true, Bool.not_false, Bool.or_true, Bool.true_or, Bool.or_false, Bool.false_or]; rfl)
 have q3 : decide (h.core.next = 1048576) = false := decide_eq_false (by have := of_decide_eq_false h21; show ¬ h.next = _; omega)
 refine c_skip ?_
 refine n_then ?_
 refine r_seq (by kernel_rfl) ?_
 refine s_val (v_field (fo := 40) (by kernel_rfl) rfl) ?_
 refine s_val (v_load1 (v := .slice _ _ _) (by kernel_rfl) rfl (.there (.there (.there .here))) (H.at_pays _)) ?_
 refine s_val (v_field (fo := 1) (by kernel_rfl) rfl) ?_
 refine s_val (v_load1 (v := .int .i64 _) (by kernel_rfl) rfl (.there (.there .here)) rfl) ?_
 refine s_val (v_field (fo := 3) (by kernel_rfl) rfl) ?_
 refine s_val (v_load1 (v := .int .i64 _) (by kernel_rfl) rfl (.there (.there .here)) rfl) ?_
 refine s_val (v_idxS (size := 6) (k := .i64) (by kernel_rfl) (congrArg (fun a => Value.slice a h.pl h.pc) hpaE) rfl ⟨by omega, by omega⟩) ?_
 refine s_val (v_field (fo := 3) (by kernel_rfl) rfl) ?_
 refine s_store1 (v := .int .i64 _) (by kernel_rfl) rfl rfl (.there (.there (.there (.there .here)))) ⟨by rw [hszE]; omega, rfl⟩ rfl ?_
 refine s_nil ?_
 refine r_seq (by kernel_rfl) ?_
 refine s_val (v_field (fo := 40) (by kernel_rfl) rfl) ?_
 refine s_val (v_load1 (v := .slice _ _ _) (by kernel_rfl) rfl (.there (.there (.there .here))) (H.at_pays _)) ?_
 refine s_val (v_field (fo := 1) (by kernel_rfl) rfl) ?_
 refine s_val (v_load1 (v := .int .i64 _) (by kernel_rfl) rfl (.there (.there .here)) rfl) ?_
 refine s_val (v_field (fo := 41) (by kernel_rfl) rfl) ?_
 refine s_val (v_load1 (v := .int .i64 _) (by kernel_rfl) rfl (.there (.there (.there .here))) (H.at_next _)) ?_
 refine s_val (v_idxS (size := 6) (k := .i64) (by kernel_rfl) (congrArg (fun a => Value.slice a h.pl h.pc) hpaE) rfl ⟨by omega, by omega⟩) ?_
 refine s_val (v_field (fo := 5) (by kernel_rfl) rfl) ?_
 refine s_store1 (v := .int .i64 _) (by kernel_rfl) rfl rfl (.there (.there (.there (.there .here)))) ⟨by rw [Array.size_setIfInBounds, hszE]; omega, rfl⟩ rfl ?_
 refine s_nil ?_
 refine r_seq (by kernel_rfl) ?_
 refine s_val (v_field (fo := 41) (by kernel_rfl) rfl) ?_
 refine s_val (v_load1 (v := .int .i64 _) (by kernel_rfl) rfl (.there (.there (.there .here))) (H.at_next _)) ?_
 refine s_val (v_add rfl rfl (by (try dsimp only); omega)) ?_
 refine s_val (v_field (fo := 41) (by kernel_rfl) rfl) ?_
 refine s_store1 (v := .int .i64 _) (by kernel_rfl) rfl rfl (.there (.there (.there .here))) (H.set_next _) rfl ?_
 refine s_nil ?_
 refine r_seq (by kernel_rfl) ?_
 refine s_val (v_loadA (m := 42) (by kernel_rfl) rfl (.there (.there (.there .here))) (H.size _)) ?_
 refine s_val (v_build (vs := []) (cs := repC 0 0 (.slice none 0 0)) rfl (by kernel_rfl)) ?_
 refine s_storeA (m := 42) (by kernel_rfl) rfl rfl (.there .here) (H.size _) (H.size _) (H.all1 _) ?_
 refine s_storeA (m := 3) (by kernel_rfl) rfl rfl .here rfl rfl rep_all ?_
 refine s_nil ?_
 refine c_ret ?_
 refine n_doneV2 (m := 42) (m' := 3) rfl (by decide) (by decide) rfl rfl (by kernel_rfl) (by kernel_rfl) (.there .here) .here (H.size _) rep_size (fun w1 hw => ?_)
 have hpe2 : PaysE h.pa h.pl h.pc _ _ := ⟨by rw [List.length_set]; exact hl, hleE, .inr ⟨bE, tE, _, hpaE, rfl, by simp only [Array.size_setIfInBounds]; exact hszE, hcsE.clsseq hpn a.c h.next⟩⟩
 exact retV_own (Ed := []) (hw.sub (List.Sublist.cons _ (List.Sublist.cons _ (List.Sublist.cons _ (List.Sublist.cons _ (List.Sublist.cons_cons _ (List.Sublist.refl _))))))) (fun _ _ h => h) hleE (fun _ hk => hpe2.known hk) (listE_nil _ _) (by simp only [classM, h10, h16, h21, hset, q3, cond_true, cond_false, Bool.not_true, Bool.not_false, Bool.or_true, Bool.true_or, Bool.or_false, Bool.false_or]; rfl)
set_option maxHeartbeats 1000000 in
theorem g_credit (F : Addr → Value → Prop) (h : H) (ps : List PayS) (a : ActS) (E : List (Nat × Obj)) (hE : ListE 65 6 (.slice h.pa h.pl h.pc) h.pl (flatC ps) E) (hl : ps.length = h.pl) (hgc : goodB h.core ps = true) : GivesV Try.prog 43 [.agg h.cells, .agg a.cells] F (E) (NextV 3 (creditM h.core ps a)) := by
 refine givesV_of Try.func43 rfl Try.ntmps43 (by simp) (fun w K => ?_)
 have hpe := hE.pays hl
 have h24 : h.pl ≤ 24 := by have := (good_pays hgc).2.2; omega
 have hnx : 0 ≤ h.next ∧ h.next ≤ 1048576 := (good_iff.1 hgc).next
 refine r_seq (by kernel_rfl) ?_
 refine s_box (v := .agg _) rfl (fun b2 => ?_)
 refine s_box (v := .agg _) rfl (fun b3 => ?_)
 refine s_alloc (z := .agg zeroH.cells) (by kernel_rfl) (fun b4 => ?_)
 refine s_alloc (z := .agg (repC 0 0 (.slice none 0 0))) (by kernel_rfl) (fun b5 => ?_)
 refine s_nil ?_
 refine c_seq ?_
 refine r_seq (by kernel_rfl) ?_
 refine s_val (v_field (fo := 1) (by kernel_rfl) rfl) ?_
 refine s_val (v_load1 (v := .int .i64 _) (by kernel_rfl) rfl (.there (.there .here)) rfl) ?_
 refine s_call (by kernel_rfl) (fun w hw => g_isBankB _ w) ?_
 refine s_val (v_not rfl) ?_
 refine s_val (v_move (v := .bool _) rfl) ?_
 refine s_splitN (s := 10) rfl (fun h10 => ?_) (fun h10 => ?_)
 · refine s_pass rfl rfl (congrArg not h10) ?_
   refine s_pass rfl rfl (congrArg not h10) ?_
   refine s_pass rfl rfl (congrArg not h10) ?_
   refine s_pass rfl rfl (congrArg not h10) ?_
   refine s_val (v_pickT (v := .bool _) rfl (congrArg not h10) rfl) ?_
   refine s_nil ?_
   refine c_condTh rfl rfl rfl ?_
   refine t_seq (k := 2) (by kernel_rfl) (by kernel_rfl) (fun w hw => hw.drew) (by kernel_rfl) ?_
   refine q_val (v_loadA (m := 42) (by kernel_rfl) rfl (.there (.there (.there .here))) (H.size _)) ?_
   refine q_call (by kernel_rfl) (fun w hw => g_failed _ w) ?_
   refine q_tail ?_
   refine s_storeA (m := 42) (by kernel_rfl) rfl rfl (.there .here) (H.size _) (H.size _) (H.all1 _) ?_
   refine s_storeA (m := 3) (by kernel_rfl) rfl rfl .here rfl rfl rep_all ?_
   refine s_nil ?_
   refine c_ret ?_
   refine n_ret ?_
   refine n_doneV2 (m := 42) (m' := 3) rfl (by decide) (by decide) rfl rfl (by kernel_rfl) (by kernel_rfl) (.there .here) .here (H.size _) rep_size (fun w1 hw => ?_)
   exact retV_own (Ep := E) (Ed := []) (hw.sub (List.Sublist.cons _ (List.Sublist.cons _ (List.Sublist.cons _ (List.Sublist.cons _ (List.Sublist.append (List.Sublist.refl _) (List.Sublist.refl _))))))) (fun _ _ h => h) hpe.2.1 (fun _ hk => hpe.known hk) (listE_nil _ _) (by simp only [creditM, h10, cond_true, cond_false, Bool.not_true, Bool.not_false, Bool.or_true, Bool.true_or, Bool.or_false, Bool.false_or]; rfl)
 refine s_want rfl rfl (congrArg not h10) ?_
 refine s_val (v_field (fo := 4) (by kernel_rfl) rfl) ?_
 refine s_want rfl rfl (congrArg not h10) ?_
 refine s_val (v_load1 (v := .int .i64 _) (by kernel_rfl) rfl (.there (.there .here)) rfl) ?_
 refine s_want rfl rfl (congrArg not h10) ?_
 refine s_call (by kernel_rfl) (fun w hw => g_withinB _ _ _ w) ?_
 refine s_want rfl rfl (congrArg not h10) ?_
 refine s_val (v_not rfl) ?_
 refine s_val (v_pickF (v := .bool _) rfl (congrArg not h10) rfl) ?_
 refine s_nil ?_
 refine c_condN rfl rfl (fun h15 => ?_) (fun h15 => ?_)
 · refine t_seq (k := 2) (by kernel_rfl) (by kernel_rfl) (fun w hw => hw.drew) (by kernel_rfl) ?_
   refine q_val (v_loadA (m := 42) (by kernel_rfl) rfl (.there (.there (.there .here))) (H.size _)) ?_
   refine q_call (by kernel_rfl) (fun w hw => g_failed _ w) ?_
   refine q_tail ?_
   refine s_storeA (m := 42) (by kernel_rfl) rfl rfl (.there .here) (H.size _) (H.size _) (H.all1 _) ?_
   refine s_storeA (m := 3) (by kernel_rfl) rfl rfl .here rfl rfl rep_all ?_
   refine s_nil ?_
   refine c_ret ?_
   refine n_ret ?_
   refine n_doneV2 (m := 42) (m' := 3) rfl (by decide) (by decide) rfl rfl (by kernel_rfl) (by kernel_rfl) (.there .here) .here (H.size _) rep_size (fun w1 hw => ?_)
   exact retV_own (Ep := E) (Ed := []) (hw.sub (List.Sublist.cons _ (List.Sublist.cons _ (List.Sublist.cons _ (List.Sublist.cons _ (List.Sublist.append (List.Sublist.refl _) (List.Sublist.refl _))))))) (fun _ _ h => h) hpe.2.1 (fun _ hk => hpe.known hk) (listE_nil _ _) (by simp only [creditM, h10, h15, cond_true, cond_false, Bool.not_true, Bool.not_false, Bool.or_true, Bool.true_or, Bool.or_false, Bool.false_or]; rfl)
 have hwa := within_iff.1 h10
 have hwn := within_iff.1 h15
 refine c_skip ?_
 refine n_then ?_
 refine r_seq (by kernel_rfl) ?_
 refine s_val (v_field (fo := 1) (by kernel_rfl) rfl) ?_
 refine s_val (v_load1 (v := .int .i64 _) (by kernel_rfl) rfl (.there (.there .here)) rfl) ?_
 refine s_val (v_field (fo := 4) (by kernel_rfl) rfl) ?_
 refine s_val (v_load1 (v := .int .i64 _) (by kernel_rfl) rfl (.there (.there .here)) rfl) ?_
 refine s_val (v_field (fo := 0) (by kernel_rfl) rfl) ?_
 refine s_val (v_idxA (len := 4) (size := 2) (k := .i64) (by kernel_rfl) rfl rfl (by omega)) ?_
 refine s_val (v_field (fo := 1) (by kernel_rfl) rfl) ?_
 refine s_store1 (v := .int .i64 _) (by kernel_rfl) rfl rfl (.there (.there (.there .here))) (H.set_cred _ (by omega)) rfl ?_
 refine s_nil ?_
 refine r_seq (by kernel_rfl) ?_
 refine s_val (v_loadA (m := 42) (by kernel_rfl) rfl (.there (.there (.there .here))) (H.size _)) ?_
 refine s_val (v_build (vs := []) (cs := repC 0 0 (.slice none 0 0)) rfl (by kernel_rfl)) ?_
 refine s_storeA (m := 42) (by kernel_rfl) rfl rfl (.there .here) (H.size _) (H.size _) (H.all1 _) ?_
 refine s_storeA (m := 3) (by kernel_rfl) rfl rfl .here rfl rfl rep_all ?_
 refine s_nil ?_
 refine c_ret ?_
 refine n_doneV2 (m := 42) (m' := 3) rfl (by decide) (by decide) rfl rfl (by kernel_rfl) (by kernel_rfl) (.there .here) .here (H.size _) rep_size (fun w1 hw => ?_)
 exact retV_own (Ep := E) (Ed := []) (hw.sub (List.Sublist.cons _ (List.Sublist.cons _ (List.Sublist.cons _ (List.Sublist.cons _ (List.Sublist.append (List.Sublist.refl _) (List.Sublist.refl _))))))) (fun _ _ h => h) hpe.2.1 (fun _ hk => hpe.known hk) (listE_nil _ _) (by simp only [creditM, h10, h15, cond_true, cond_false, Bool.not_true, Bool.not_false, Bool.or_true, Bool.true_or, Bool.or_false, Bool.false_or]; rfl)
set_option maxHeartbeats 1000000 in
theorem g_limit (F : Addr → Value → Prop) (h : H) (ps : List PayS) (a : ActS) (E : List (Nat × Obj)) (hE : ListE 65 6 (.slice h.pa h.pl h.pc) h.pl (flatC ps) E) (hl : ps.length = h.pl) (hgc : goodB h.core ps = true) : GivesV Try.prog 44 [.agg h.cells, .agg a.cells] F (E) (NextV 3 (limitM h.core ps a)) := by
 refine givesV_of Try.func44 rfl Try.ntmps44 (by simp) (fun w K => ?_)
 have hpe := hE.pays hl
 have h24 : h.pl ≤ 24 := by have := (good_pays hgc).2.2; omega
 have hnx : 0 ≤ h.next ∧ h.next ≤ 1048576 := (good_iff.1 hgc).next
 refine r_seq (by kernel_rfl) ?_
 refine s_box (v := .agg _) rfl (fun b2 => ?_)
 refine s_box (v := .agg _) rfl (fun b3 => ?_)
 refine s_alloc (z := .agg zeroH.cells) (by kernel_rfl) (fun b4 => ?_)
 refine s_alloc (z := .agg (repC 0 0 (.slice none 0 0))) (by kernel_rfl) (fun b5 => ?_)
 refine s_nil ?_
 refine c_seq ?_
 refine r_seq (by kernel_rfl) ?_
 refine s_val (v_field (fo := 1) (by kernel_rfl) rfl) ?_
 refine s_val (v_load1 (v := .int .i64 _) (by kernel_rfl) rfl (.there (.there .here)) rfl) ?_
 refine s_call (by kernel_rfl) (fun w hw => g_isBankB _ w) ?_
 refine s_val (v_not rfl) ?_
 refine s_val (v_move (v := .bool _) rfl) ?_
 refine s_splitN (s := 10) rfl (fun h10 => ?_) (fun h10 => ?_)
 · refine s_pass rfl rfl (congrArg not h10) ?_
   refine s_pass rfl rfl (congrArg not h10) ?_
   refine s_pass rfl rfl (congrArg not h10) ?_
   refine s_pass rfl rfl (congrArg not h10) ?_
   refine s_val (v_pickT (v := .bool _) rfl (congrArg not h10) rfl) ?_
   refine s_val (v_move (v := .bool _) rfl) ?_
   refine s_pass (g := true) rfl rfl rfl ?_
   refine s_pass (g := true) rfl rfl rfl ?_
   refine s_pass (g := true) rfl rfl rfl ?_
   refine s_pass (g := true) rfl rfl rfl ?_
   refine s_pass (g := true) rfl rfl rfl ?_
   refine s_val (v_pickT (v := .bool _) rfl rfl rfl) ?_
   refine s_val (v_move (v := .bool _) rfl) ?_
   refine s_pass (g := true) rfl rfl rfl ?_
   refine s_pass (g := true) rfl rfl rfl ?_
   refine s_pass (g := true) rfl rfl rfl ?_
   refine s_pass (g := true) rfl rfl rfl ?_
   refine s_val (v_pickT (v := .bool _) rfl rfl rfl) ?_
   refine s_nil ?_
   refine c_condTh rfl rfl rfl ?_
   refine t_seq (k := 2) (by kernel_rfl) (by kernel_rfl) (fun w hw => hw.drew) (by kernel_rfl) ?_
   refine q_val (v_loadA (m := 42) (by kernel_rfl) rfl (.there (.there (.there .here))) (H.size _)) ?_
   refine q_call (by kernel_rfl) (fun w hw => g_failed _ w) ?_
   refine q_tail ?_
   refine s_storeA (m := 42) (by kernel_rfl) rfl rfl (.there .here) (H.size _) (H.size _) (H.all1 _) ?_
   refine s_storeA (m := 3) (by kernel_rfl) rfl rfl .here rfl rfl rep_all ?_
   refine s_nil ?_
   refine c_ret ?_
   refine n_ret ?_
   refine n_doneV2 (m := 42) (m' := 3) rfl (by decide) (by decide) rfl rfl (by kernel_rfl) (by kernel_rfl) (.there .here) .here (H.size _) rep_size (fun w1 hw => ?_)
   exact retV_own (Ep := E) (Ed := []) (hw.sub (List.Sublist.cons _ (List.Sublist.cons _ (List.Sublist.cons _ (List.Sublist.cons _ (List.Sublist.append (List.Sublist.refl _) (List.Sublist.refl _))))))) (fun _ _ h => h) hpe.2.1 (fun _ hk => hpe.known hk) (listE_nil _ _) (by simp only [limitM, h10, cond_true, cond_false, Bool.not_true, Bool.not_false, Bool.or_true, Bool.true_or, Bool.or_false, Bool.false_or]; rfl)
 refine s_want rfl rfl (congrArg not h10) ?_
 refine s_val (v_field (fo := 2) (by kernel_rfl) rfl) ?_
 refine s_want rfl rfl (congrArg not h10) ?_
 refine s_val (v_load1 (v := .int .i64 _) (by kernel_rfl) rfl (.there (.there .here)) rfl) ?_
 refine s_want rfl rfl (congrArg not h10) ?_
 refine s_call (by kernel_rfl) (fun w hw => g_isBankB _ w) ?_
 refine s_want rfl rfl (congrArg not h10) ?_
 refine s_val (v_not rfl) ?_
 refine s_val (v_pickF (v := .bool _) rfl (congrArg not h10) rfl) ?_
 refine s_val (v_move (v := .bool _) rfl) ?_
 refine s_splitN (s := 16) rfl (fun h16 => ?_) (fun h16 => ?_)
 · refine s_pass rfl rfl (congrArg not h16) ?_
   refine s_pass rfl rfl (congrArg not h16) ?_
   refine s_pass rfl rfl (congrArg not h16) ?_
   refine s_pass rfl rfl (congrArg not h16) ?_
   refine s_pass rfl rfl (congrArg not h16) ?_
   refine s_val (v_pickT (v := .bool _) rfl (congrArg not h16) rfl) ?_
   refine s_val (v_move (v := .bool _) rfl) ?_
   refine s_pass (g := true) rfl rfl rfl ?_
   refine s_pass (g := true) rfl rfl rfl ?_
   refine s_pass (g := true) rfl rfl rfl ?_
   refine s_pass (g := true) rfl rfl rfl ?_
   refine s_val (v_pickT (v := .bool _) rfl rfl rfl) ?_
   refine s_nil ?_
   refine c_condTh rfl rfl rfl ?_
   refine t_seq (k := 2) (by kernel_rfl) (by kernel_rfl) (fun w hw => hw.drew) (by kernel_rfl) ?_
   refine q_val (v_loadA (m := 42) (by kernel_rfl) rfl (.there (.there (.there .here))) (H.size _)) ?_
   refine q_call (by kernel_rfl) (fun w hw => g_failed _ w) ?_
   refine q_tail ?_
   refine s_storeA (m := 42) (by kernel_rfl) rfl rfl (.there .here) (H.size _) (H.size _) (H.all1 _) ?_
   refine s_storeA (m := 3) (by kernel_rfl) rfl rfl .here rfl rfl rep_all ?_
   refine s_nil ?_
   refine c_ret ?_
   refine n_ret ?_
   refine n_doneV2 (m := 42) (m' := 3) rfl (by decide) (by decide) rfl rfl (by kernel_rfl) (by kernel_rfl) (.there .here) .here (H.size _) rep_size (fun w1 hw => ?_)
   exact retV_own (Ep := E) (Ed := []) (hw.sub (List.Sublist.cons _ (List.Sublist.cons _ (List.Sublist.cons _ (List.Sublist.cons _ (List.Sublist.append (List.Sublist.refl _) (List.Sublist.refl _))))))) (fun _ _ h => h) hpe.2.1 (fun _ hk => hpe.known hk) (listE_nil _ _) (by simp only [limitM, h10, h16, cond_true, cond_false, Bool.not_true, Bool.not_false, Bool.or_true, Bool.true_or, Bool.or_false, Bool.false_or]; rfl)
 refine s_want rfl rfl (congrArg not h16) ?_
 refine s_val (v_field (fo := 1) (by kernel_rfl) rfl) ?_
 refine s_want rfl rfl (congrArg not h16) ?_
 refine s_val (v_load1 (v := .int .i64 _) (by kernel_rfl) rfl (.there (.there .here)) rfl) ?_
 refine s_want rfl rfl (congrArg not h16) ?_
 refine s_val (v_field (fo := 2) (by kernel_rfl) rfl) ?_
 refine s_want rfl rfl (congrArg not h16) ?_
 refine s_val (v_load1 (v := .int .i64 _) (by kernel_rfl) rfl (.there (.there .here)) rfl) ?_
 refine s_want rfl rfl (congrArg not h16) ?_
 refine s_val (v_eql (k := .i64) rfl rfl) ?_
 refine s_val (v_pickF (v := .bool _) rfl (congrArg not h16) rfl) ?_
 refine s_val (v_move (v := .bool _) rfl) ?_
 refine s_split (s := 23) rfl (fun h23 => ?_) (fun h23 => ?_)
 · refine s_pass rfl rfl h23 ?_
   refine s_pass rfl rfl h23 ?_
   refine s_pass rfl rfl h23 ?_
   refine s_pass rfl rfl h23 ?_
   refine s_val (v_pickT (v := .bool _) rfl h23 rfl) ?_
   refine s_nil ?_
   refine c_condTh rfl rfl rfl ?_
   refine t_seq (k := 2) (by kernel_rfl) (by kernel_rfl) (fun w hw => hw.drew) (by kernel_rfl) ?_
   refine q_val (v_loadA (m := 42) (by kernel_rfl) rfl (.there (.there (.there .here))) (H.size _)) ?_
   refine q_call (by kernel_rfl) (fun w hw => g_failed _ w) ?_
   refine q_tail ?_
   refine s_storeA (m := 42) (by kernel_rfl) rfl rfl (.there .here) (H.size _) (H.size _) (H.all1 _) ?_
   refine s_storeA (m := 3) (by kernel_rfl) rfl rfl .here rfl rfl rep_all ?_
   refine s_nil ?_
   refine c_ret ?_
   refine n_ret ?_
   refine n_doneV2 (m := 42) (m' := 3) rfl (by decide) (by decide) rfl rfl (by kernel_rfl) (by kernel_rfl) (.there .here) .here (H.size _) rep_size (fun w1 hw => ?_)
   exact retV_own (Ep := E) (Ed := []) (hw.sub (List.Sublist.cons _ (List.Sublist.cons _ (List.Sublist.cons _ (List.Sublist.cons _ (List.Sublist.append (List.Sublist.refl _) (List.Sublist.refl _))))))) (fun _ _ h => h) hpe.2.1 (fun _ hk => hpe.known hk) (listE_nil _ _) (by simp only [limitM, h10, h16, h23, cond_true, cond_false, Bool.not_true, Bool.not_false, Bool.or_true, Bool.true_or, Bool.or_false, Bool.false_or]; rfl)
 refine s_want rfl rfl h23 ?_
 refine s_val (v_field (fo := 4) (by kernel_rfl) rfl) ?_
 refine s_want rfl rfl h23 ?_
 refine s_val (v_load1 (v := .int .i64 _) (by kernel_rfl) rfl (.there (.there .here)) rfl) ?_
 refine s_want rfl rfl h23 ?_
 refine s_call (by kernel_rfl) (fun w hw => g_withinB _ _ _ w) ?_
 refine s_want rfl rfl h23 ?_
 refine s_val (v_not rfl) ?_
 refine s_val (v_pickF (v := .bool _) rfl h23 rfl) ?_
 refine s_nil ?_
 refine c_condN rfl rfl (fun h28 => ?_) (fun h28 => ?_)
 · refine t_seq (k := 2) (by kernel_rfl) (by kernel_rfl) (fun w hw => hw.drew) (by kernel_rfl) ?_
   refine q_val (v_loadA (m := 42) (by kernel_rfl) rfl (.there (.there (.there .here))) (H.size _)) ?_
   refine q_call (by kernel_rfl) (fun w hw => g_failed _ w) ?_
   refine q_tail ?_
   refine s_storeA (m := 42) (by kernel_rfl) rfl rfl (.there .here) (H.size _) (H.size _) (H.all1 _) ?_
   refine s_storeA (m := 3) (by kernel_rfl) rfl rfl .here rfl rfl rep_all ?_
   refine s_nil ?_
   refine c_ret ?_
   refine n_ret ?_
   refine n_doneV2 (m := 42) (m' := 3) rfl (by decide) (by decide) rfl rfl (by kernel_rfl) (by kernel_rfl) (.there .here) .here (H.size _) rep_size (fun w1 hw => ?_)
   exact retV_own (Ep := E) (Ed := []) (hw.sub (List.Sublist.cons _ (List.Sublist.cons _ (List.Sublist.cons _ (List.Sublist.cons _ (List.Sublist.append (List.Sublist.refl _) (List.Sublist.refl _))))))) (fun _ _ h => h) hpe.2.1 (fun _ hk => hpe.known hk) (listE_nil _ _) (by simp only [limitM, h10, h16, h23, h28, cond_true, cond_false, Bool.not_true, Bool.not_false, Bool.or_true, Bool.true_or, Bool.or_false, Bool.false_or]; rfl)
 have hwa := within_iff.1 h10
 have hwb := within_iff.1 h16
 have hwn := within_iff.1 h28
 refine c_skip ?_
 refine n_then ?_
 refine t_seq (k := 9) (by kernel_rfl) (by kernel_rfl) (fun w hw => hw.drew) (by kernel_rfl) ?_
 refine q_val (v_field (fo := 1) (by kernel_rfl) rfl) ?_
 refine q_val (v_load1 (v := .int .i64 _) (by kernel_rfl) rfl (.there (.there .here)) rfl) ?_
 refine q_val (v_field (fo := 2) (by kernel_rfl) rfl) ?_
 refine q_val (v_load1 (v := .int .i64 _) (by kernel_rfl) rfl (.there (.there .here)) rfl) ?_
 refine q_val (v_field (fo := 4) (by kernel_rfl) rfl) ?_
 refine q_val (v_load1 (v := .int .i64 _) (by kernel_rfl) rfl (.there (.there .here)) rfl) ?_
 refine q_val (v_field (fo := 24) (by kernel_rfl) rfl) ?_
 refine q_val (v_idxA (len := 4) (size := 4) (k := .i64) (by kernel_rfl) rfl rfl (by omega)) ?_
 refine q_val (v_idxA (len := 4) (size := 1) (k := .i64) (by kernel_rfl) rfl rfl (by omega)) ?_
 refine q_tail ?_
 refine s_store1 (v := .int .i64 _) (by kernel_rfl) rfl rfl (.there (.there (.there .here))) (H.set_lim _ (by omega) (by omega)) rfl ?_
 refine s_nil ?_
 refine r_seq (by kernel_rfl) ?_
 refine s_val (v_loadA (m := 42) (by kernel_rfl) rfl (.there (.there (.there .here))) (H.size _)) ?_
 refine s_val (v_build (vs := []) (cs := repC 0 0 (.slice none 0 0)) rfl (by kernel_rfl)) ?_
 refine s_storeA (m := 42) (by kernel_rfl) rfl rfl (.there .here) (H.size _) (H.size _) (H.all1 _) ?_
 refine s_storeA (m := 3) (by kernel_rfl) rfl rfl .here rfl rfl rep_all ?_
 refine s_nil ?_
 refine c_ret ?_
 refine n_doneV2 (m := 42) (m' := 3) rfl (by decide) (by decide) rfl rfl (by kernel_rfl) (by kernel_rfl) (.there .here) .here (H.size _) rep_size (fun w1 hw => ?_)
 exact retV_own (Ep := E) (Ed := []) (hw.sub (List.Sublist.cons _ (List.Sublist.cons _ (List.Sublist.cons _ (List.Sublist.cons _ (List.Sublist.append (List.Sublist.refl _) (List.Sublist.refl _))))))) (fun _ _ h => h) hpe.2.1 (fun _ hk => hpe.known hk) (listE_nil _ _) (by simp only [limitM, h10, h16, h23, h28, cond_true, cond_false, Bool.not_true, Bool.not_false, Bool.or_true, Bool.true_or, Bool.or_false, Bool.false_or]; rfl)
set_option maxHeartbeats 1000000 in
theorem g_fund (F : Addr → Value → Prop) (h : H) (ps : List PayS) (a : ActS) (E : List (Nat × Obj)) (hE : ListE 65 6 (.slice h.pa h.pl h.pc) h.pl (flatC ps) E) (hl : ps.length = h.pl) (hgc : goodB h.core ps = true) : GivesV Try.prog 45 [.agg h.cells, .agg a.cells] F (E) (NextV 3 (fundM h.core ps a)) := by
 refine givesV_of Try.func45 rfl Try.ntmps45 (by simp) (fun w K => ?_)
 have hpe := hE.pays hl
 have h24 : h.pl ≤ 24 := by have := (good_pays hgc).2.2; omega
 have hnx : 0 ≤ h.next ∧ h.next ≤ 1048576 := (good_iff.1 hgc).next
 refine r_seq (by kernel_rfl) ?_
 refine s_box (v := .agg _) rfl (fun b2 => ?_)
 refine s_box (v := .agg _) rfl (fun b3 => ?_)
 refine s_alloc (z := .agg zeroH.cells) (by kernel_rfl) (fun b4 => ?_)
 refine s_alloc (z := .agg (repC 0 0 (.slice none 0 0))) (by kernel_rfl) (fun b5 => ?_)
 refine s_nil ?_
 refine c_seq ?_
 refine r_seq (by kernel_rfl) ?_
 refine s_val (v_field (fo := 1) (by kernel_rfl) rfl) ?_
 refine s_val (v_load1 (v := .int .i64 _) (by kernel_rfl) rfl (.there (.there .here)) rfl) ?_
 refine s_call (by kernel_rfl) (fun w hw => g_isBankB _ w) ?_
 refine s_val (v_not rfl) ?_
 refine s_val (v_move (v := .bool _) rfl) ?_
 refine s_splitN (s := 10) rfl (fun h10 => ?_) (fun h10 => ?_)
 · refine s_pass rfl rfl (congrArg not h10) ?_
   refine s_pass rfl rfl (congrArg not h10) ?_
   refine s_pass rfl rfl (congrArg not h10) ?_
   refine s_pass rfl rfl (congrArg not h10) ?_
   refine s_val (v_pickT (v := .bool _) rfl (congrArg not h10) rfl) ?_
   refine s_nil ?_
   refine c_condTh rfl rfl rfl ?_
   refine t_seq (k := 2) (by kernel_rfl) (by kernel_rfl) (fun w hw => hw.drew) (by kernel_rfl) ?_
   refine q_val (v_loadA (m := 42) (by kernel_rfl) rfl (.there (.there (.there .here))) (H.size _)) ?_
   refine q_call (by kernel_rfl) (fun w hw => g_failed _ w) ?_
   refine q_tail ?_
   refine s_storeA (m := 42) (by kernel_rfl) rfl rfl (.there .here) (H.size _) (H.size _) (H.all1 _) ?_
   refine s_storeA (m := 3) (by kernel_rfl) rfl rfl .here rfl rfl rep_all ?_
   refine s_nil ?_
   refine c_ret ?_
   refine n_ret ?_
   refine n_doneV2 (m := 42) (m' := 3) rfl (by decide) (by decide) rfl rfl (by kernel_rfl) (by kernel_rfl) (.there .here) .here (H.size _) rep_size (fun w1 hw => ?_)
   exact retV_own (Ep := E) (Ed := []) (hw.sub (List.Sublist.cons _ (List.Sublist.cons _ (List.Sublist.cons _ (List.Sublist.cons _ (List.Sublist.append (List.Sublist.refl _) (List.Sublist.refl _))))))) (fun _ _ h => h) hpe.2.1 (fun _ hk => hpe.known hk) (listE_nil _ _) (by simp only [fundM, h10, cond_true, cond_false, Bool.not_true, Bool.not_false, Bool.or_true, Bool.true_or, Bool.or_false, Bool.false_or]; rfl)
 refine s_want rfl rfl (congrArg not h10) ?_
 refine s_val (v_field (fo := 4) (by kernel_rfl) rfl) ?_
 refine s_want rfl rfl (congrArg not h10) ?_
 refine s_val (v_load1 (v := .int .i64 _) (by kernel_rfl) rfl (.there (.there .here)) rfl) ?_
 refine s_want rfl rfl (congrArg not h10) ?_
 refine s_call (by kernel_rfl) (fun w hw => g_withinB _ _ _ w) ?_
 refine s_want rfl rfl (congrArg not h10) ?_
 refine s_val (v_not rfl) ?_
 refine s_val (v_pickF (v := .bool _) rfl (congrArg not h10) rfl) ?_
 refine s_nil ?_
 refine c_condN rfl rfl (fun h15 => ?_) (fun h15 => ?_)
 · refine t_seq (k := 2) (by kernel_rfl) (by kernel_rfl) (fun w hw => hw.drew) (by kernel_rfl) ?_
   refine q_val (v_loadA (m := 42) (by kernel_rfl) rfl (.there (.there (.there .here))) (H.size _)) ?_
   refine q_call (by kernel_rfl) (fun w hw => g_failed _ w) ?_
   refine q_tail ?_
   refine s_storeA (m := 42) (by kernel_rfl) rfl rfl (.there .here) (H.size _) (H.size _) (H.all1 _) ?_
   refine s_storeA (m := 3) (by kernel_rfl) rfl rfl .here rfl rfl rep_all ?_
   refine s_nil ?_
   refine c_ret ?_
   refine n_ret ?_
   refine n_doneV2 (m := 42) (m' := 3) rfl (by decide) (by decide) rfl rfl (by kernel_rfl) (by kernel_rfl) (.there .here) .here (H.size _) rep_size (fun w1 hw => ?_)
   exact retV_own (Ep := E) (Ed := []) (hw.sub (List.Sublist.cons _ (List.Sublist.cons _ (List.Sublist.cons _ (List.Sublist.cons _ (List.Sublist.append (List.Sublist.refl _) (List.Sublist.refl _))))))) (fun _ _ h => h) hpe.2.1 (fun _ hk => hpe.known hk) (listE_nil _ _) (by simp only [fundM, h10, h15, cond_true, cond_false, Bool.not_true, Bool.not_false, Bool.or_true, Bool.true_or, Bool.or_false, Bool.false_or]; rfl)
 have hwa := within_iff.1 h10
 have hwn := within_iff.1 h15
 have hH : -1099511627776 ≤ h.has a.a ∧ h.has a.a ≤ 1099511627776 := (good_iff.1 hgc).house.has a.a ⟨by omega, by omega⟩
 have hCr : 0 ≤ h.cred a.a ∧ h.cred a.a ≤ 1000000 := (good_iff.1 hgc).house.cred a.a ⟨by omega, by omega⟩
 refine c_skip ?_
 refine n_then ?_
 refine c_seq ?_
 refine r_seq (by kernel_rfl) ?_
 refine s_val (v_field (fo := 1) (by kernel_rfl) rfl) ?_
 refine s_val (v_load1 (v := .int .i64 _) (by kernel_rfl) rfl (.there (.there .here)) rfl) ?_
 refine s_val (v_field (fo := 0) (by kernel_rfl) rfl) ?_
 refine s_val (v_idxA (len := 4) (size := 2) (k := .i64) (by kernel_rfl) rfl rfl (by omega)) ?_
 refine s_val (v_field (fo := 0) (by kernel_rfl) rfl) ?_
 refine s_val (v_load1 (v := .int .i64 _) (by kernel_rfl) rfl (.there (.there (.there .here))) (H.at_has _ (by omega))) ?_
 refine s_val (v_geq (k := .i64) rfl rfl) ?_
 refine s_nil ?_
 refine c_cond rfl rfl (fun h24 => ?_) (fun h24 => ?_)
 · have q4 : decide (549755813888 ≤ h.core.has a.a) = true := h24
   refine t_seq (k := 2) (by kernel_rfl) (by kernel_rfl) (fun w hw => hw.drew) (by kernel_rfl) ?_
   refine q_val (v_loadA (m := 42) (by kernel_rfl) rfl (.there (.there (.there .here))) (H.size _)) ?_
   refine q_call (by kernel_rfl) (fun w hw => g_failed _ w) ?_
   refine q_tail ?_
   refine s_storeA (m := 42) (by kernel_rfl) rfl rfl (.there .here) (H.size _) (H.size _) (H.all1 _) ?_
   refine s_storeA (m := 3) (by kernel_rfl) rfl rfl .here rfl rfl rep_all ?_
   refine s_nil ?_
   refine c_ret ?_
   refine n_ret ?_
   refine n_doneV2 (m := 42) (m' := 3) rfl (by decide) (by decide) rfl rfl (by kernel_rfl) (by kernel_rfl) (.there .here) .here (H.size _) rep_size (fun w1 hw => ?_)
   exact retV_own (Ep := E) (Ed := []) (hw.sub (List.Sublist.cons _ (List.Sublist.cons _ (List.Sublist.cons _ (List.Sublist.cons _ (List.Sublist.append (List.Sublist.refl _) (List.Sublist.refl _))))))) (fun _ _ h => h) hpe.2.1 (fun _ hk => hpe.known hk) (listE_nil _ _) (by simp only [fundM, h10, h15, h24, q4, cond_true, cond_false, Bool.not_true, Bool.not_false, Bool.or_true, Bool.true_or, Bool.or_false, Bool.false_or]; rfl)
 have q4 : decide (549755813888 ≤ h.core.has a.a) = false := h24
 refine c_skip ?_
 refine n_then ?_
 refine t_seq (k := 12) (by kernel_rfl) (by kernel_rfl) (fun w hw => hw.drew) (by kernel_rfl) ?_
 refine q_val (v_field (fo := 1) (by kernel_rfl) rfl) ?_
 refine q_val (v_load1 (v := .int .i64 _) (by kernel_rfl) rfl (.there (.there .here)) rfl) ?_
 refine q_val (v_field (fo := 0) (by kernel_rfl) rfl) ?_
 refine q_val (v_idxA (len := 4) (size := 2) (k := .i64) (by kernel_rfl) rfl rfl (by omega)) ?_
 refine q_val (v_field (fo := 0) (by kernel_rfl) rfl) ?_
 refine q_val (v_load1 (v := .int .i64 _) (by kernel_rfl) rfl (.there (.there (.there .here))) (H.at_has _ (by omega))) ?_
 refine q_val (v_field (fo := 4) (by kernel_rfl) rfl) ?_
 refine q_val (v_load1 (v := .int .i64 _) (by kernel_rfl) rfl (.there (.there .here)) rfl) ?_
 refine q_val (v_add rfl rfl (by (try dsimp only); omega)) ?_
 refine q_val (v_field (fo := 0) (by kernel_rfl) rfl) ?_
 refine q_val (v_idxA (len := 4) (size := 2) (k := .i64) (by kernel_rfl) rfl rfl (by omega)) ?_
 refine q_val (v_field (fo := 0) (by kernel_rfl) rfl) ?_
 refine q_tail ?_
 refine s_store1 (v := .int .i64 _) (by kernel_rfl) rfl rfl (.there (.there (.there .here))) (H.set_has _ (by omega)) rfl ?_
 refine s_nil ?_
 refine r_seq (by kernel_rfl) ?_
 refine s_val (v_loadA (m := 42) (by kernel_rfl) rfl (.there (.there (.there .here))) (H.size _)) ?_
 refine s_val (v_build (vs := []) (cs := repC 0 0 (.slice none 0 0)) rfl (by kernel_rfl)) ?_
 refine s_storeA (m := 42) (by kernel_rfl) rfl rfl (.there .here) (H.size _) (H.size _) (H.all1 _) ?_
 refine s_storeA (m := 3) (by kernel_rfl) rfl rfl .here rfl rfl rep_all ?_
 refine s_nil ?_
 refine c_ret ?_
 refine n_doneV2 (m := 42) (m' := 3) rfl (by decide) (by decide) rfl rfl (by kernel_rfl) (by kernel_rfl) (.there .here) .here (H.size _) rep_size (fun w1 hw => ?_)
 exact retV_own (Ep := E) (Ed := []) (hw.sub (List.Sublist.cons _ (List.Sublist.cons _ (List.Sublist.cons _ (List.Sublist.cons _ (List.Sublist.append (List.Sublist.refl _) (List.Sublist.refl _))))))) (fun _ _ h => h) hpe.2.1 (fun _ hk => hpe.known hk) (listE_nil _ _) (by simp only [fundM, h10, h15, h24, q4, cond_true, cond_false, Bool.not_true, Bool.not_false, Bool.or_true, Bool.true_or, Bool.or_false, Bool.false_or]; rfl)
set_option maxHeartbeats 1000000 in
theorem g_spend (F : Addr → Value → Prop) (h : H) (ps : List PayS) (a : ActS) (E : List (Nat × Obj)) (hE : ListE 65 6 (.slice h.pa h.pl h.pc) h.pl (flatC ps) E) (hl : ps.length = h.pl) (hgc : goodB h.core ps = true) : GivesV Try.prog 46 [.agg h.cells, .agg a.cells] F (E) (NextV 3 (spendM h.core ps a)) := by
 refine givesV_of Try.func46 rfl Try.ntmps46 (by simp) (fun w K => ?_)
 have hpe := hE.pays hl
 have h24 : h.pl ≤ 24 := by have := (good_pays hgc).2.2; omega
 have hnx : 0 ≤ h.next ∧ h.next ≤ 1048576 := (good_iff.1 hgc).next
 refine r_seq (by kernel_rfl) ?_
 refine s_box (v := .agg _) rfl (fun b2 => ?_)
 refine s_box (v := .agg _) rfl (fun b3 => ?_)
 refine s_alloc (z := .agg zeroH.cells) (by kernel_rfl) (fun b4 => ?_)
 refine s_alloc (z := .agg (repC 0 0 (.slice none 0 0))) (by kernel_rfl) (fun b5 => ?_)
 refine s_nil ?_
 refine c_seq ?_
 refine r_seq (by kernel_rfl) ?_
 refine s_val (v_field (fo := 1) (by kernel_rfl) rfl) ?_
 refine s_val (v_load1 (v := .int .i64 _) (by kernel_rfl) rfl (.there (.there .here)) rfl) ?_
 refine s_call (by kernel_rfl) (fun w hw => g_isBankB _ w) ?_
 refine s_val (v_not rfl) ?_
 refine s_val (v_move (v := .bool _) rfl) ?_
 refine s_splitN (s := 10) rfl (fun h10 => ?_) (fun h10 => ?_)
 · refine s_pass rfl rfl (congrArg not h10) ?_
   refine s_pass rfl rfl (congrArg not h10) ?_
   refine s_pass rfl rfl (congrArg not h10) ?_
   refine s_pass rfl rfl (congrArg not h10) ?_
   refine s_val (v_pickT (v := .bool _) rfl (congrArg not h10) rfl) ?_
   refine s_nil ?_
   refine c_condTh rfl rfl rfl ?_
   refine t_seq (k := 2) (by kernel_rfl) (by kernel_rfl) (fun w hw => hw.drew) (by kernel_rfl) ?_
   refine q_val (v_loadA (m := 42) (by kernel_rfl) rfl (.there (.there (.there .here))) (H.size _)) ?_
   refine q_call (by kernel_rfl) (fun w hw => g_failed _ w) ?_
   refine q_tail ?_
   refine s_storeA (m := 42) (by kernel_rfl) rfl rfl (.there .here) (H.size _) (H.size _) (H.all1 _) ?_
   refine s_storeA (m := 3) (by kernel_rfl) rfl rfl .here rfl rfl rep_all ?_
   refine s_nil ?_
   refine c_ret ?_
   refine n_ret ?_
   refine n_doneV2 (m := 42) (m' := 3) rfl (by decide) (by decide) rfl rfl (by kernel_rfl) (by kernel_rfl) (.there .here) .here (H.size _) rep_size (fun w1 hw => ?_)
   exact retV_own (Ep := E) (Ed := []) (hw.sub (List.Sublist.cons _ (List.Sublist.cons _ (List.Sublist.cons _ (List.Sublist.cons _ (List.Sublist.append (List.Sublist.refl _) (List.Sublist.refl _))))))) (fun _ _ h => h) hpe.2.1 (fun _ hk => hpe.known hk) (listE_nil _ _) (by simp only [spendM, h10, cond_true, cond_false, Bool.not_true, Bool.not_false, Bool.or_true, Bool.true_or, Bool.or_false, Bool.false_or]; rfl)
 refine s_want rfl rfl (congrArg not h10) ?_
 refine s_val (v_field (fo := 4) (by kernel_rfl) rfl) ?_
 refine s_want rfl rfl (congrArg not h10) ?_
 refine s_val (v_load1 (v := .int .i64 _) (by kernel_rfl) rfl (.there (.there .here)) rfl) ?_
 refine s_want rfl rfl (congrArg not h10) ?_
 refine s_call (by kernel_rfl) (fun w hw => g_withinB _ _ _ w) ?_
 refine s_want rfl rfl (congrArg not h10) ?_
 refine s_val (v_not rfl) ?_
 refine s_val (v_pickF (v := .bool _) rfl (congrArg not h10) rfl) ?_
 refine s_nil ?_
 refine c_condN rfl rfl (fun h15 => ?_) (fun h15 => ?_)
 · refine t_seq (k := 2) (by kernel_rfl) (by kernel_rfl) (fun w hw => hw.drew) (by kernel_rfl) ?_
   refine q_val (v_loadA (m := 42) (by kernel_rfl) rfl (.there (.there (.there .here))) (H.size _)) ?_
   refine q_call (by kernel_rfl) (fun w hw => g_failed _ w) ?_
   refine q_tail ?_
   refine s_storeA (m := 42) (by kernel_rfl) rfl rfl (.there .here) (H.size _) (H.size _) (H.all1 _) ?_
   refine s_storeA (m := 3) (by kernel_rfl) rfl rfl .here rfl rfl rep_all ?_
   refine s_nil ?_
   refine c_ret ?_
   refine n_ret ?_
   refine n_doneV2 (m := 42) (m' := 3) rfl (by decide) (by decide) rfl rfl (by kernel_rfl) (by kernel_rfl) (.there .here) .here (H.size _) rep_size (fun w1 hw => ?_)
   exact retV_own (Ep := E) (Ed := []) (hw.sub (List.Sublist.cons _ (List.Sublist.cons _ (List.Sublist.cons _ (List.Sublist.cons _ (List.Sublist.append (List.Sublist.refl _) (List.Sublist.refl _))))))) (fun _ _ h => h) hpe.2.1 (fun _ hk => hpe.known hk) (listE_nil _ _) (by simp only [spendM, h10, h15, cond_true, cond_false, Bool.not_true, Bool.not_false, Bool.or_true, Bool.true_or, Bool.or_false, Bool.false_or]; rfl)
 have hwa := within_iff.1 h10
 have hwn := within_iff.1 h15
 have hH : -1099511627776 ≤ h.has a.a ∧ h.has a.a ≤ 1099511627776 := (good_iff.1 hgc).house.has a.a ⟨by omega, by omega⟩
 have hCr : 0 ≤ h.cred a.a ∧ h.cred a.a ≤ 1000000 := (good_iff.1 hgc).house.cred a.a ⟨by omega, by omega⟩
 have hlf : leftM h a.a = h.has a.a + h.cred a.a := left_eq ⟨by omega, by omega⟩ ⟨by omega, by omega⟩ hCr
 refine c_skip ?_
 refine n_then ?_
 refine c_seq ?_
 refine d_seq (by kernel_rfl) (by kernel_rfl) (fun w hw => hw.drew) (by kernel_rfl) ?_
 refine q_val (v_loadA (m := 42) (by kernel_rfl) rfl (.there (.there (.there .here))) (H.size _)) ?_
 refine q_val (v_field (fo := 1) (by kernel_rfl) rfl) ?_
 refine q_val (v_load1 (v := .int .i64 _) (by kernel_rfl) rfl (.there (.there .here)) rfl) ?_
 refine q_call (by kernel_rfl) (fun w hw => g_Left _ _ w) ?_
 refine q_val (v_field (fo := 4) (by kernel_rfl) rfl) ?_
 refine q_val (v_load1 (v := .int .i64 _) (by kernel_rfl) rfl (.there (.there .here)) rfl) ?_
 refine q_val (v_lss (k := .i64) rfl rfl) ?_
 refine q_nil ?_
 refine c_cond rfl rfl (fun h24 => ?_) (fun h24 => ?_)
 · have q5 : decide (h.core.has a.a + h.core.cred a.a < a.n) = true := by rw [hlf] at h24; exact h24
   refine t_seq (k := 2) (by kernel_rfl) (by kernel_rfl) (fun w hw => hw.drew) (by kernel_rfl) ?_
   refine q_val (v_loadA (m := 42) (by kernel_rfl) rfl (.there (.there (.there .here))) (H.size _)) ?_
   refine q_call (by kernel_rfl) (fun w hw => g_failed _ w) ?_
   refine q_tail ?_
   refine s_storeA (m := 42) (by kernel_rfl) rfl rfl (.there .here) (H.size _) (H.size _) (H.all1 _) ?_
   refine s_storeA (m := 3) (by kernel_rfl) rfl rfl .here rfl rfl rep_all ?_
   refine s_nil ?_
   refine c_ret ?_
   refine n_ret ?_
   refine n_doneV2 (m := 42) (m' := 3) rfl (by decide) (by decide) rfl rfl (by kernel_rfl) (by kernel_rfl) (.there .here) .here (H.size _) rep_size (fun w1 hw => ?_)
   exact retV_own (Ep := E) (Ed := []) (hw.sub (List.Sublist.cons _ (List.Sublist.cons _ (List.Sublist.cons _ (List.Sublist.cons _ (List.Sublist.append (List.Sublist.refl _) (List.Sublist.refl _))))))) (fun _ _ h => h) hpe.2.1 (fun _ hk => hpe.known hk) (listE_nil _ _) (by simp only [spendM, h10, h15, h24, q5, cond_true, cond_false, Bool.not_true, Bool.not_false, Bool.or_true, Bool.true_or, Bool.or_false, Bool.false_or]; rfl)
 have q5 : decide (h.core.has a.a + h.core.cred a.a < a.n) = false := by rw [hlf] at h24; exact h24
 refine c_skip ?_
 refine n_then ?_
 refine t_seq (k := 12) (by kernel_rfl) (by kernel_rfl) (fun w hw => hw.drew) (by kernel_rfl) ?_
 refine q_val (v_field (fo := 1) (by kernel_rfl) rfl) ?_
 refine q_val (v_load1 (v := .int .i64 _) (by kernel_rfl) rfl (.there (.there .here)) rfl) ?_
 refine q_val (v_field (fo := 0) (by kernel_rfl) rfl) ?_
 refine q_val (v_idxA (len := 4) (size := 2) (k := .i64) (by kernel_rfl) rfl rfl (by omega)) ?_
 refine q_val (v_field (fo := 0) (by kernel_rfl) rfl) ?_
 refine q_val (v_load1 (v := .int .i64 _) (by kernel_rfl) rfl (.there (.there (.there .here))) (H.at_has _ (by omega))) ?_
 refine q_val (v_field (fo := 4) (by kernel_rfl) rfl) ?_
 refine q_val (v_load1 (v := .int .i64 _) (by kernel_rfl) rfl (.there (.there .here)) rfl) ?_
 refine q_val (v_sub rfl rfl (by (try dsimp only); omega)) ?_
 refine q_val (v_field (fo := 0) (by kernel_rfl) rfl) ?_
 refine q_val (v_idxA (len := 4) (size := 2) (k := .i64) (by kernel_rfl) rfl rfl (by omega)) ?_
 refine q_val (v_field (fo := 0) (by kernel_rfl) rfl) ?_
 refine q_tail ?_
 refine s_store1 (v := .int .i64 _) (by kernel_rfl) rfl rfl (.there (.there (.there .here))) (H.set_has _ (by omega)) rfl ?_
 refine s_nil ?_
 refine r_seq (by kernel_rfl) ?_
 refine s_val (v_loadA (m := 42) (by kernel_rfl) rfl (.there (.there (.there .here))) (H.size _)) ?_
 refine s_val (v_build (vs := []) (cs := repC 0 0 (.slice none 0 0)) rfl (by kernel_rfl)) ?_
 refine s_storeA (m := 42) (by kernel_rfl) rfl rfl (.there .here) (H.size _) (H.size _) (H.all1 _) ?_
 refine s_storeA (m := 3) (by kernel_rfl) rfl rfl .here rfl rfl rep_all ?_
 refine s_nil ?_
 refine c_ret ?_
 refine n_doneV2 (m := 42) (m' := 3) rfl (by decide) (by decide) rfl rfl (by kernel_rfl) (by kernel_rfl) (.there .here) .here (H.size _) rep_size (fun w1 hw => ?_)
 exact retV_own (Ep := E) (Ed := []) (hw.sub (List.Sublist.cons _ (List.Sublist.cons _ (List.Sublist.cons _ (List.Sublist.cons _ (List.Sublist.append (List.Sublist.refl _) (List.Sublist.refl _))))))) (fun _ _ h => h) hpe.2.1 (fun _ hk => hpe.known hk) (listE_nil _ _) (by simp only [spendM, h10, h15, h24, q5, cond_true, cond_false, Bool.not_true, Bool.not_false, Bool.or_true, Bool.true_or, Bool.or_false, Bool.false_or]; rfl)
set_option maxHeartbeats 1000000 in
theorem g_untie (F : Addr → Value → Prop) (h : H) (ps : List PayS) (a : ActS) (E : List (Nat × Obj)) (hE : ListE 65 6 (.slice h.pa h.pl h.pc) h.pl (flatC ps) E) (hl : ps.length = h.pl) (hgc : goodB h.core ps = true) : GivesV Try.prog 47 [.agg h.cells, .agg a.cells] F (E) (NextV 3 (untieN h.core ps)) := by
 refine givesV_of Try.func47 rfl Try.ntmps47 (by simp) (fun w K => ?_)
 have hpe := hE.pays hl
 have h24 : h.pl ≤ 24 := by have := (good_pays hgc).2.2; omega
 have hnx : 0 ≤ h.next ∧ h.next ≤ 1048576 := (good_iff.1 hgc).next
 refine r_seq (by kernel_rfl) ?_
 refine s_box (v := .agg _) rfl (fun b2 => ?_)
 refine s_box (v := .agg _) rfl (fun b3 => ?_)
 refine s_alloc (z := .agg zeroH.cells) (by kernel_rfl) (fun b4 => ?_)
 refine s_alloc (z := .agg (repC 0 0 (.slice none 0 0))) (by kernel_rfl) (fun b5 => ?_)
 refine s_nil ?_
 refine r_seq (by kernel_rfl) ?_
 refine s_val (v_loadA (m := 42) (by kernel_rfl) rfl (.there (.there (.there .here))) (H.size _)) ?_
 refine s_callX (by kernel_rfl) (sweepX_mono _ _ _ _) (fun w hw => g_UntieX h ps w (hpe.known (at_known hw (fun _ hq => (List.mem_cons_of_mem _ (List.mem_cons_of_mem _ (List.mem_cons_of_mem _ (List.mem_cons_of_mem _ (List.mem_append_left _ hq)))))))) (by omega) hpe.2.1 hgc) (fun F9 v9 E9 hF9 hR9 => ?_)
 obtain ⟨v10, v11, rfl, ⟨h10, rfl, hco, hlc10, hpo⟩, hE9⟩ := hR9
 obtain ⟨a11, c11, rfl⟩ := hE9.shape
 refine s_val (v_move (v := .tuple _) rfl) ?_
 refine s_val (v_extract rfl rfl) ?_
 refine s_val (v_extract rfl rfl) ?_
 refine s_storeA (m := 42) (by kernel_rfl) rfl rfl (.app (.there (.there (.there .here)))) (H.size _) (H.size _) (H.all1 _) ?_
 refine s_val (v_assign (v := .slice _ _ _) rfl) ?_
 refine s_nil ?_
 refine r_seq (by kernel_rfl) ?_
 refine s_val (v_loadA (m := 42) (by kernel_rfl) rfl (.app (.there (.there (.there .here)))) (H.size _)) ?_
 refine s_val (v_move (v := .slice _ _ _) rfl) ?_
 refine s_val (v_lenS (T := 30) (m := 1) (by kernel_rfl) rfl rfl) ?_
 refine s_val (v_move (v := .slice _ _ _) rfl) ?_
 refine s_val (v_build (vs := [(1, .int .i64 _), (2, .slice _ _ _)]) (cs := repC 0 ((untieM h.core ps).xs.length : Int) (.slice a11 (untieM h.core ps).xs.length c11)) rfl (by kernel_rfl)) ?_
 refine s_storeA (m := 42) (by kernel_rfl) rfl rfl (.app (.there .here)) (H.size _) (H.size _) (H.all1 _) ?_
 refine s_storeA (m := 3) (by kernel_rfl) rfl rfl (.app .here) rfl rfl rep_all ?_
 refine s_nil ?_
 refine c_ret ?_
 refine n_doneV2 (m := 42) (m' := 3) rfl (by decide) (by decide) rfl rfl (by kernel_rfl) (by kernel_rfl) (.app (.there .here)) (.app .here) (H.size _) rep_size (fun w1 hw => ?_)
 rcases hpo with q | q
 · exact retV_own (ps := (untieM h.core ps).ps) (Ep := E) (Ed := E9) ((hw.sub (List.Sublist.append (List.Sublist.refl _) (List.Sublist.cons _ (List.Sublist.cons _ (List.Sublist.cons _ (List.Sublist.cons _ (List.Sublist.append (List.Sublist.refl _) (List.Sublist.refl _)))))))).perm (perm_front (A := E9) (E := E))) hF9 hlc10 (fun _ hk => by rw [q.1, q.2.1, q.2.2]; exact hpe.known hk) hE9 (by rw [hco]; rfl)
 · exact retV_known (hw.sub (List.Sublist.append (List.Sublist.refl _) (List.Sublist.cons _ (List.Sublist.cons _ (List.Sublist.cons _ (List.Sublist.cons _ (List.Sublist.trans (List.Sublist.refl _) (List.sublist_append_right _ _)))))))) hF9 q hlc10 hE9 (by rw [hco]; rfl)
set_option maxHeartbeats 1000000 in
theorem g_closeAll (F : Addr → Value → Prop) (h : H) (ps : List PayS) (a : ActS) (E : List (Nat × Obj)) (hE : ListE 65 6 (.slice h.pa h.pl h.pc) h.pl (flatC ps) E) (hl : ps.length = h.pl) (hgc : goodB h.core ps = true) : GivesV Try.prog 48 [.agg h.cells, .agg a.cells] F (E) (NextV 3 (closeM h.core ps)) := by
 refine givesV_of Try.func48 rfl Try.ntmps48 (by simp) (fun w K => ?_)
 have hpe := hE.pays hl
 have h24 : h.pl ≤ 24 := by have := (good_pays hgc).2.2; omega
 have hnx : 0 ≤ h.next ∧ h.next ≤ 1048576 := (good_iff.1 hgc).next
 refine r_seq (by kernel_rfl) ?_
 refine s_box (v := .agg _) rfl (fun b2 => ?_)
 refine s_box (v := .agg _) rfl (fun b3 => ?_)
 refine s_alloc (z := .agg zeroH.cells) (by kernel_rfl) (fun b4 => ?_)
 refine s_alloc (z := .agg (repC 0 0 (.slice none 0 0))) (by kernel_rfl) (fun b5 => ?_)
 refine s_nil ?_
 refine r_seq (by kernel_rfl) ?_
 refine s_val (v_assign (v := .int .i64 _) rfl) ?_
 refine s_nil ?_
 refine c_seq ?_
 refine r_seq (by kernel_rfl) ?_
 refine s_val (v_field (fo := 40) (by kernel_rfl) rfl) ?_
 refine s_val (v_load1 (v := .slice _ _ _) (by kernel_rfl) rfl (.there (.there (.there .here))) (H.at_pays _)) ?_
 refine s_val (v_lenS (T := 45) (m := 6) (by kernel_rfl) rfl rfl) ?_
 refine s_val (v_move (v := .int .i64 _) rfl) ?_
 refine s_nil ?_
 refine c_block ?_
 refine c_loop (σ := Nat × List (Nat × Obj)) (fun ((k, E1) : Nat × List (Nat × Obj)) f => ∃ g, (k ≤ h.pl ∧ PaysE h.pa h.pl h.pc (goneTo ps k) E1) ∧ f = (upd (upd (upd (upd (upd (upd (upd g 2 (.pointer (some ⟨b2, 0, none⟩))) 3 (.pointer (some ⟨b3, 0, none⟩))) 4 (.pointer (some ⟨b4, 0, none⟩))) 5 (.pointer (some ⟨b5, 0, none⟩))) 6 (I (cnt (ps.take k) : Int))) 10 (I h.pl)) 11 (I k))) (fun ((k, E1) : Nat × List (Nat × Obj)) => Has w F ((b5, .cells ((repC 0 0 (.slice none 0 0))) 32) :: (b4, .cells zeroH.cells 47) :: (b3, .cells a.cells 24) :: (b2, .cells h.cells 47) :: (E1 ++ K))) (fun ((k, E1) : Nat × List (Nat × Obj)) => h.pl - k) (0, E) ⟨_, ⟨Nat.zero_le _, by rw [goneTo_zero]; exact hpe⟩, live7 rfl rfl rfl rfl rfl rfl rfl⟩ (fun w hw => hw) ?_
 rintro ⟨k, E1⟩ _ ⟨g, ⟨hkl, hPE⟩, rfl⟩
 refine r_seq (by kernel_rfl) ?_
 refine s_val (v_lss (k := .i64) rfl rfl) ?_
 refine s_nil ?_
 refine c_seq ?_
 refine c_condR rfl rfl (fun h12 => ?_) (fun h12 => ?_)
 · have hk0 : k = h.pl := by have := of_decide_eq_false h12; omega
   refine c_exit ?_
   refine n_exit ?_
   refine n_exit ?_
   refine n_bhere ?_
   refine n_then ?_
   refine r_seq (by kernel_rfl) ?_
   refine s_val (v_loadA (m := 42) (by kernel_rfl) rfl (.there (.there (.there .here))) (H.size _)) ?_
   refine s_val (v_move (v := .int .i64 _) rfl) ?_
   refine s_val (v_build (vs := [(1, .int .i64 _)]) (cs := repC 0 (cnt (ps.take k) : Int) (.slice none 0 0)) rfl (by kernel_rfl)) ?_
   refine s_storeA (m := 42) (by kernel_rfl) rfl rfl (.there .here) (H.size _) (H.size _) (H.all1 _) ?_
   refine s_storeA (m := 3) (by kernel_rfl) rfl rfl .here rfl rfl rep_all ?_
   refine s_nil ?_
   refine c_ret ?_
   refine n_doneV2 (m := 42) (m' := 3) rfl (by decide) (by decide) rfl rfl (by kernel_rfl) (by kernel_rfl) (.there .here) .here (H.size _) rep_size (fun w1 hw => ?_)
   exact retV_own (Ep := E1) (Ed := []) (hw.sub (List.Sublist.cons _ (List.Sublist.cons _ (List.Sublist.cons _ (List.Sublist.cons _ (List.Sublist.append (List.Sublist.refl _) (List.Sublist.refl _))))))) (fun _ _ h => h) hPE.2.1 (fun _ hk => hPE.known hk) (listE_nil _ _) (by rw [hk0, ← hl, goneTo_all, List.take_length]; rfl)
 have hk0 := of_decide_eq_true h12
 obtain ⟨p, hpk, hpt⟩ : ∃ p, ps[k]? = some p ∧ True := ⟨ps[k]'(by omega), List.getElem?_eq_getElem (by omega), trivial⟩
 have hgk := goneTo_at hpk
 have hct := cnt_le ps k
 have hstep := cnt_take hpk
 refine c_skip ?_
 refine n_then ?_
 refine c_seq ?_
 refine c_block ?_
 refine r_seq (by kernel_rfl) ?_
 refine s_val (v_move (v := .int .i64 _) rfl) ?_
 refine s_val (v_assign (v := .int .i64 _) rfl) ?_
 refine s_nil ?_
 refine r_seq (by kernel_rfl) ?_
 refine s_val (v_loadA (m := 42) (by kernel_rfl) rfl (.there (.there (.there .here))) (H.size _)) ?_
 refine s_val (v_move (v := .int .i64 _) rfl) ?_
 refine s_call (by kernel_rfl) (fun w hw => g_isQueued h (goneTo ps k) ((k : Int)) w (hPE.known (at_known hw (fun _ hq => (List.mem_cons_of_mem _ (List.mem_cons_of_mem _ (List.mem_cons_of_mem _ (List.mem_cons_of_mem _ (List.mem_append_left _ hq)))))))) (by omega)) ?_
 refine s_nil ?_
 refine c_condR rfl rfl (fun h16 => ?_) (fun h16 => ?_)
 · refine c_skip ?_
   refine n_bnormal ?_
   refine n_then ?_
   refine r_list (by kernel_rfl) ?_
   refine s_val (v_add rfl rfl (by omega)) ?_
   refine s_val (v_move (v := .int .i64 _) rfl) ?_
   refine s_end ?_
   refine n_round (s := (k, E1)) (k + 1, E1) ⟨_, ⟨by omega, by rw [goneTo_no hpk ((waits_in (by omega) (by simpa using hgk)).trans h16)]; exact hPE⟩, live7 rfl rfl rfl rfl (congrArg I (by rw [hstep, (waits_in (by omega) (by simpa using hgk)).trans h16]; simp)) rfl rfl⟩ (fun _ hw => hw) (by dsimp only; omega)
 have hsp : decide (p.sta = 1) = true := (waits_in (by omega) (by simpa using hgk)).trans h16
 obtain ⟨bE, tE, csE, hpaE, rfl, hszE, hcsE⟩ := hPE.some (by omega)
 have hleE := hPE.2.1
 refine r_seq (by kernel_rfl) ?_
 refine s_val (v_field (fo := 40) (by kernel_rfl) rfl) ?_
 refine s_val (v_load1 (v := .slice _ _ _) (by kernel_rfl) rfl (.there (.there (.there .here))) (H.at_pays _)) ?_
 refine s_val (v_move (v := .int .i64 _) rfl) ?_
 refine s_val (v_idxS (size := 6) (k := .i64) (by kernel_rfl) (congrArg (fun a => Value.slice a h.pl h.pc) hpaE) rfl ⟨by omega, by omega⟩) ?_
 refine s_val (v_field (fo := 4) (by kernel_rfl) rfl) ?_
 refine s_store1 (v := .int .i64 _) (by kernel_rfl) rfl rfl (.there (.there (.there (.there .here)))) ⟨by rw [hszE]; omega, rfl⟩ rfl ?_
 refine s_nil ?_
 refine r_list (by kernel_rfl) ?_
 refine s_val (v_move (v := .int .i64 _) rfl) ?_
 refine s_val (v_add rfl rfl (by omega)) ?_
 refine s_val (v_assign (v := .int .i64 _) rfl) ?_
 refine s_end ?_
 refine n_bnormal ?_
 refine n_then ?_
 refine r_list (by kernel_rfl) ?_
 refine s_val (v_add rfl rfl (by omega)) ?_
 refine s_val (v_move (v := .int .i64 _) rfl) ?_
 refine s_end ?_
 refine n_round (s := (k, [(bE, .cells csE tE (0, 0))])) (k + 1, [(bE, .cells (csE.setIfInBounds (0 + k * 6 + 4) (I 3)) tE (0, 0))]) ⟨_, ⟨by omega, by rw [goneTo_len]; exact hl, hleE, .inr ⟨bE, tE, _, hpaE, rfl, by rw [Array.size_setIfInBounds]; exact hszE, by rw [goneTo_step hpk, goneP_yes hsp]; exact hcsE.sta hgk 3⟩⟩, live7 rfl rfl rfl rfl (congrArg I (by rw [hstep, hsp]; simp)) rfl rfl⟩ (fun _ hw => hw) (by dsimp only; omega)
end Go.Proofs.Ytmkboljfbmlebac
namespace Go.Proofs.Ytmkboljfbmlebac
open Go.RowKit
set_option linter.unusedSimpArgs false
set_option linter.unusedVariables false
set_option maxRecDepth 100000
attribute [local irreducible] cC sC nC rC qw
theorem g_sweepBank (h : H) (ps : List PayS) (bank nr : Int) (w : World) (hp : PaysIn (At w) h.pa h.pl ps) (hb : h.pl * 48 ≤ 281474976710656) (hlc : h.pl ≤ h.pc) (hsa : SeqsApart ps) (hgp : GoodPs ps) (hbk : 0 ≤ bank ∧ bank < 4) (hnn : 0 ≤ nr) (hnr0 : nr + ps.length ≤ 1000000) (hnear : NearG nr h.core) : GivesF Try.prog 67 [.agg h.cells, I bank] w (SweepF h ps (drain bank ⟨h.core, ps, []⟩)) := by
 have hnr : nr + (queueM ps bank).length ≤ 1000000 := by have := queueTo_len ps bank ps.length; unfold queueM; omega
 refine givesF_of Try.func67 rfl Try.ntmps67 (by simp) ?_
 refine r_seq (by kernel_rfl) ?_
 refine s_box (v := .agg _) rfl (fun b2 => ?_)
 refine s_alloc (z := .agg zeroH.cells) (by kernel_rfl) (fun b4 => ?_)
 refine s_val (v_assign (v := .slice _ _ _) rfl) ?_
 refine s_nil ?_
 refine r_seq (by kernel_rfl) ?_
 refine s_val (v_loadA (m := 42) (by kernel_rfl) rfl (.there .here) (H.size _)) ?_
 refine s_val (v_move (v := .int .i64 _) rfl) ?_
 refine s_callG (by kernel_rfl) (room_mono _) (fun w hw => (g_Of h ps bank w (hp.at hw) hb hlc hsa (.inl hbk)).toF (fun F v E hk hl => room_of_list hl hk)) (fun F12 v12 hF12 hR12 => ?_)
 obtain ⟨a12, c12, rfl, hc12, ia12⟩ := hR12
 refine s_val (v_assign (v := .slice _ _ _) rfl) ?_
 refine s_nil ?_
 refine c_seq ?_
 refine r_seq (by kernel_rfl) ?_
 refine s_val (v_move (v := .slice _ _ _) rfl) ?_
 refine s_val (v_lenS (T := 30) (m := 1) (by kernel_rfl) rfl rfl) ?_
 refine s_val (v_move (v := .int .i64 _) rfl) ?_
 refine s_nil ?_
 refine c_block ?_
 refine c_loop (σ := SbG) (fun (t : SbG) f => ∃ g, (SbOk w F12 h ps bank nr t) ∧ f = (upd (upd (upd (upd (upd (upd (upd g 1 (I bank)) 2 (.pointer (some ⟨b2, 0, none⟩))) 4 (.pointer (some ⟨b4, 0, none⟩))) 6 (.slice a12 (queueM ps bank).length c12)) 13 (.slice a12 (queueM ps bank).length c12)) 14 (I (queueM ps bank).length)) 15 (I t.k))) (fun (t : SbG) => Has w t.F [(b4, .cells zeroH.cells 47), (b2, .cells t.h.cells 47)]) (fun (t : SbG) => (queueM ps bank).length - t.k) ⟨F12, h, ps, 0⟩ ⟨_, sb_start hp hF12 hlc hsa hgp hnear, live7 rfl rfl rfl rfl rfl rfl rfl⟩ (fun w hw => hw) ?_
 rintro t _ ⟨g, ho, rfl⟩
 refine r_seq (by kernel_rfl) ?_
 refine s_val (v_lss (k := .i64) rfl rfl) ?_
 refine s_nil ?_
 refine c_seq ?_
 refine c_condR rfl rfl (fun h16 => ?_) (fun h16 => ?_)
 · refine c_exit ?_
   refine n_exit ?_
   refine n_exit ?_
   refine n_bhere ?_
   refine n_then ?_
   refine r_seq (by kernel_rfl) ?_
   refine s_val (v_loadA (m := 42) (by kernel_rfl) rfl (.there .here) (H.size _)) ?_
   refine s_val (v_move (v := .slice _ _ _) rfl) ?_
   refine s_storeA (m := 42) (by kernel_rfl) rfl rfl .here (H.size _) (H.size _) (H.all1 _) ?_
   refine s_val (v_assign (v := .slice _ _ _) rfl) ?_
   refine s_nil ?_
   refine c_ret ?_
   refine n_done2F (m := 42) rfl (by decide) (by decide) rfl (by kernel_rfl) .here (H.size _) (fun w hw => ?_)
   exact ho.done (ho.fin (of_decide_eq_false h16)) hw ia12 (by have := of_decide_eq_false h16; have := ho.kl; omega)
 have hk0 := of_decide_eq_true h16
 obtain ⟨bq, oq, n, ha12, hn, hfn⟩ := ia12.get (j := t.k) (by omega)
 obtain ⟨p, hst, hpn, hsrc, hq, hn0, hnl, hnl'⟩ := ho.step hn
 obtain ⟨bp, op, hpa, hc⟩ := ho.pays.some hnl
 have hkl := ho.kl
 have hlent := ho.len
 refine c_skip ?_
 refine n_then ?_
 refine c_seq ?_
 refine c_block ?_
 refine r_seq (by kernel_rfl) ?_
 refine s_val (v_move (v := .int .i64 _) rfl) ?_
 refine s_val (v_idxS (size := 1) (k := .i64) (by kernel_rfl) (congrArg (fun a => Value.slice a (queueM ps bank).length c12) ha12) rfl ⟨by omega, by omega⟩) ?_
 refine s_val (v_load1o (v := I n) (by kernel_rfl) rfl (by simpa using ho.more _ _ hfn.1)) ?_
 refine s_val (v_assign (v := .int .i64 _) rfl) ?_
 refine s_val (v_assign (v := .int .i64 _) rfl) ?_
 refine s_nil ?_
 refine r_seq (by kernel_rfl) ?_
 refine s_val (v_field (fo := 40) (by kernel_rfl) rfl) ?_
 refine s_val (v_load1 (v := .slice _ _ _) (by kernel_rfl) rfl (.there .here) (H.at_pays _)) ?_
 refine s_val (v_move (v := .int .i64 _) rfl) ?_
 refine s_val (v_idxS (size := 6) (k := .i64) (by kernel_rfl) (congrArg (fun a => Value.slice a t.h.pl t.h.pc) hpa) rfl ⟨by omega, by omega⟩) ?_
 refine s_val (v_loadNo (cs := p.cells) (m := 6) (by kernel_rfl) rfl rfl (hc _ p hpn)) ?_
 refine s_alloc (z := zeroOf Try.prog 65) (by kernel_rfl) (fun b9 => ?_)
 refine s_storeA (m := 6) (by kernel_rfl) rfl rfl .here (by kernel_rfl) rfl (PayS.all1 _) ?_
 refine s_nil ?_
 refine c_seq ?_
 refine r_seq (by kernel_rfl) ?_
 refine s_val (v_loadA (m := 42) (by kernel_rfl) rfl (.there (.there .here)) (H.size _)) ?_
 refine s_val (v_field (fo := 0) (by kernel_rfl) rfl) ?_
 refine s_val (v_load1 (v := .int .i64 _) (by kernel_rfl) rfl .here rfl) ?_
 refine s_val (v_field (fo := 1) (by kernel_rfl) rfl) ?_
 refine s_val (v_load1 (v := .int .i64 _) (by kernel_rfl) rfl .here rfl) ?_
 refine s_val (v_field (fo := 2) (by kernel_rfl) rfl) ?_
 refine s_val (v_load1 (v := .int .i64 _) (by kernel_rfl) rfl .here rfl) ?_
 refine s_call (by kernel_rfl) (fun w hw => g_May _ _ _ _ w) ?_
 refine s_val (v_not rfl) ?_
 refine s_nil ?_
 refine c_condNR rfl rfl (fun h33 => ?_) (fun h33 => ?_)
 · refine c_skip ?_
   refine n_then ?_
   refine r_list (by kernel_rfl) ?_
   refine s_val (v_loadA (m := 42) (by kernel_rfl) rfl (.there (.there .here)) (H.size _)) ?_
   refine s_val (v_move (v := .int .i64 _) rfl) ?_
   refine s_callG (by kernel_rfl) (houseF_mono _ _ _ _) (fun w hw => g_Settle t.h t.ps n w (ho.pays.at hw) (by omega) ho.lc) (fun F40 v40 hF40 hR40 => ?_)
   obtain ⟨h40, rfl, hco40, hlc40, hpo40⟩ := hR40
   refine s_storeA (m := 42) (by kernel_rfl) rfl rfl (.there (.there .here)) (H.size _) (H.size _) (H.all1 _) ?_
   refine s_end ?_
   refine n_bnormal ?_
   refine n_then ?_
   refine r_list (by kernel_rfl) ?_
   refine s_val (v_add rfl rfl (by omega)) ?_
   refine s_val (v_move (v := .int .i64 _) rfl) ?_
   refine s_end ?_
   refine n_round (s := t) ⟨F40, h40, settleP t.ps n, t.k + 1⟩ ⟨_, ho.next hnn hnr hn hst hq (by have hm := h33; rw [ho.may hnr, hsrc] at hm; exact hm) hF40 hco40 hlc40 hpo40, live7 rfl rfl rfl rfl rfl rfl rfl⟩ (fun _ hw => hw.tail) (by dsimp only; omega)
 refine fw_seq (j0 := 4) (Ψ := (rowV 34 (.agg t.h.cells) (rowV 35 (.slice a12 (queueM ps bank).length c12) (rowV 36 (I t.k) (rowV 37 (.slice a12 ((t.k : Int)).toNat c12) (rowV 5 (.slice a12 ((t.k : Int)).toNat c12) AnyV)))))) (L' := [(b9, .cells p.cells 65), (b4, .cells t.h.cells 47), (b2, .cells t.h.cells 47)]) (by kernel_rfl) (by kernel_rfl) (by kernel_rfl) rfl ⟨?_, ?_, ?_, ?_, ?_, trivial⟩ ⟨?_, ?_, ?_, ?_, ?_, trivial⟩ ?_ ?_
 · refine obw_val (v := .agg t.h.cells) (fun g hl => ?_)
   have e2 : g 2 = .pointer (some ⟨b2, 0, none⟩) := (hl 2 (of_decide_eq_true (by kernel_rfl))).2 (of_decide_eq_true (by kernel_rfl))
   exact ⟨v_loadA (m := 42) (by kernel_rfl) e2 (.there (.there .here)) (H.size _), rfl⟩
 · refine obw_val (v := .slice a12 (queueM ps bank).length c12) (fun g hl => ?_)
   have e6 : g 6 = .slice a12 (queueM ps bank).length c12 := (hl 6 (of_decide_eq_true (by kernel_rfl))).2 (of_decide_eq_true (by kernel_rfl))
   exact ⟨v_move (v := .slice a12 (queueM ps bank).length c12) e6, rfl⟩
 · refine obw_val (v := I t.k) (fun g hl => ?_)
   have e7 : g 7 = I t.k := (hl 7 (of_decide_eq_true (by kernel_rfl))).2 (of_decide_eq_true (by kernel_rfl))
   exact ⟨v_move (v := I t.k) e7, rfl⟩
 · refine obw_val (v := .slice a12 ((t.k : Int)).toNat c12) (fun g hl => ?_)
   have e35 : g 35 = .slice a12 (queueM ps bank).length c12 := (hl 35 (of_decide_eq_true (by kernel_rfl))).1 (of_decide_eq_true (by kernel_rfl))
   have e36 : g 36 = I t.k := (hl 36 (of_decide_eq_true (by kernel_rfl))).1 (of_decide_eq_true (by kernel_rfl))
   exact ⟨v_sliceHi (m := 1) (by kernel_rfl) e35 e36 ⟨by omega, by omega⟩, rfl⟩
 · refine obw_val (v := .slice a12 ((t.k : Int)).toNat c12) (fun g hl => ?_)
   have e37 : g 37 = .slice a12 ((t.k : Int)).toNat c12 := (hl 37 (of_decide_eq_true (by kernel_rfl))).1 (of_decide_eq_true (by kernel_rfl))
   exact ⟨v_assign (v := .slice a12 ((t.k : Int)).toNat c12) e37, rfl⟩
 · refine obw_val (v := .agg t.h.cells) (fun g hl => ?_)
   have e2 : g 2 = .pointer (some ⟨b2, 0, none⟩) := (hl 2 (of_decide_eq_true (by kernel_rfl))).2 (of_decide_eq_true (by kernel_rfl))
   exact ⟨v_loadA (m := 42) (by kernel_rfl) e2 (.there (.there .here)) (H.size _), rfl⟩
 · refine obw_val (v := .slice a12 (queueM ps bank).length c12) (fun g hl => ?_)
   have e6 : g 6 = .slice a12 (queueM ps bank).length c12 := (hl 6 (of_decide_eq_true (by kernel_rfl))).2 (of_decide_eq_true (by kernel_rfl))
   exact ⟨v_move (v := .slice a12 (queueM ps bank).length c12) e6, rfl⟩
 · refine obw_val (v := I t.k) (fun g hl => ?_)
   have e7 : g 7 = I t.k := (hl 7 (of_decide_eq_true (by kernel_rfl))).2 (of_decide_eq_true (by kernel_rfl))
   exact ⟨v_move (v := I t.k) e7, rfl⟩
 · refine obw_val (v := .slice a12 ((t.k : Int)).toNat c12) (fun g hl => ?_)
   have e35 : g 35 = .slice a12 (queueM ps bank).length c12 := (hl 35 (of_decide_eq_true (by kernel_rfl))).1 (of_decide_eq_true (by kernel_rfl))
   have e36 : g 36 = I t.k := (hl 36 (of_decide_eq_true (by kernel_rfl))).1 (of_decide_eq_true (by kernel_rfl))
   exact ⟨v_sliceHi (m := 1) (by kernel_rfl) e35 e36 ⟨by omega, by omega⟩, rfl⟩
 · refine obw_val (v := .slice a12 ((t.k : Int)).toNat c12) (fun g hl => ?_)
   have e37 : g 37 = .slice a12 ((t.k : Int)).toNat c12 := (hl 37 (of_decide_eq_true (by kernel_rfl))).1 (of_decide_eq_true (by kernel_rfl))
   exact ⟨v_assign (v := .slice a12 ((t.k : Int)).toNat c12) e37, rfl⟩
 · intro g hl
   have e4 : g 4 = .pointer (some ⟨b4, 0, none⟩) := (hl 4 (of_decide_eq_true (by kernel_rfl))).2 (of_decide_eq_true (by kernel_rfl))
   have e34 : g 34 = .agg t.h.cells := (hl 34 (of_decide_eq_true (by kernel_rfl))).1 (of_decide_eq_true (by kernel_rfl))
   refine ⟨rfl, ?_⟩
   refine s_storeA (m := 42) (by kernel_rfl) e4 e34 (.there .here) (H.size _) (H.size _) (H.all1 _) ?_
   exact ow_end
 intro g hd he
 have e4 : g 4 = .pointer (some ⟨b4, 0, none⟩) := he 4 (of_decide_eq_true (by kernel_rfl))
 have e5 : g 5 = .slice a12 ((t.k : Int)).toNat c12 := hd 5 (of_decide_eq_true (by kernel_rfl))
 obtain ⟨g1, hg1⟩ : ∃ g1, g = (upd (upd g1 4 (.pointer (some ⟨b4, 0, none⟩))) 5 (.slice a12 ((t.k : Int)).toNat c12)) := ⟨g, live2 e4 e5⟩
 rw [hg1]
 refine c_ret ?_
 refine n_ret ?_
 refine n_bret ?_
 refine n_ret ?_
 refine n_ret ?_
 refine n_bret ?_
 refine n_ret ?_
 refine n_done2F (m := 42) rfl (by decide) (by decide) rfl (by kernel_rfl) (.there .here) (H.size _) (fun w hw => ?_)
 exact ho.done (firstM_no hq hpn (by have hm := h33; rw [ho.may hnr, hsrc] at hm; exact hm)) hw ia12 (by omega)
end Go.Proofs.Ytmkboljfbmlebac
namespace Go.Proofs.Ytmkboljfbmlebac
open Go.RowKit
set_option linter.unusedSimpArgs false
set_option linter.unusedVariables false
set_option maxRecDepth 100000
attribute [local irreducible] cC sC nC rC qw
theorem g_Sweep (h : H) (ps : List PayS) (w : World) (hp : PaysIn (At w) h.pa h.pl ps) (hb : h.pl * 48 ≤ 281474976710656) (hlc : h.pl ≤ h.pc) : GivesF Try.prog 59 [.agg h.cells] w (SweepF h ps (sweepM h.core ps)) := by
 refine givesF_of Try.func59 rfl Try.ntmps59 (by simp) ?_
 refine r_seq (by kernel_rfl) ?_
 refine s_box (v := .agg _) rfl (fun b1 => ?_)
 refine s_alloc (z := .agg zeroH.cells) (by kernel_rfl) (fun b2 => ?_)
 refine s_val (v_assign (v := .slice _ _ _) rfl) ?_
 refine s_nil ?_
 refine c_seq ?_
 refine r_seq (by kernel_rfl) ?_
 refine s_val (v_loadA (m := 42) (by kernel_rfl) rfl (.there .here) (H.size _)) ?_
 refine s_call (by kernel_rfl) (fun w hw => g_Good _ ps w (hp.at hw)) ?_
 refine s_val (v_not rfl) ?_
 refine s_nil ?_
 refine c_condN rfl rfl (fun h10 => ?_) (fun h10 => ?_)
 · refine r_seq (by kernel_rfl) ?_
   refine s_val (v_loadA (m := 42) (by kernel_rfl) rfl (.there .here) (H.size _)) ?_
   refine s_storeA (m := 42) (by kernel_rfl) rfl rfl .here (H.size _) (H.size _) (H.all1 _) ?_
   refine s_val (v_assign (v := .slice _ _ _) rfl) ?_
   refine s_nil ?_
   refine c_ret ?_
   refine n_ret ?_
   refine n_done2F (m := 42) rfl (by decide) (by decide) rfl (by kernel_rfl) .here (H.size _) (fun w hw => ?_)
   have hg : goodB h.core ps = false := h10
   simp only [sweepM, hg, cond_false]
   exact ⟨_, _, rfl, ⟨h, rfl, rfl, hlc, .inl ⟨rfl, rfl, rfl⟩⟩, none, 0, rfl, .inl rfl⟩
 refine c_skip ?_
 refine n_then ?_
 have hg : goodB h.core ps = true := h10
 have hl24 := (good_pays hg).2.2
 have hpl := hp.1
 refine r_seq (by kernel_rfl) ?_
 refine s_val (v_assign (v := .slice _ _ _) rfl) ?_
 refine s_nil ?_
 refine c_block ?_
 refine c_loop (σ := SwG) (fun (s : SwG) f => ∃ g, (SpOk w h ps 3 s ∧ s.bank = 0) ∧ f = (upd (upd (upd g 1 (.pointer (some ⟨b1, 0, none⟩))) 2 (.pointer (some ⟨b2, 0, none⟩))) 4 (s.v))) (fun (s : SwG) => Has w s.F (s.E ++ [(b2, .cells zeroH.cells 47), (b1, .cells s.h.cells 47)])) (fun (s : SwG) => cnt s.ps) ⟨At w, h, ps, [], .slice none 0 0, [], 0, 0⟩ ⟨_, ⟨sp_start hp hlc hg, rfl⟩, live3 rfl rfl rfl⟩ (fun w hw => hw) ?_
 rintro s _ ⟨g, ⟨hok0, hb0⟩, rfl⟩
 refine c_block ?_
 obtain ⟨a4, c4, hv4⟩ := hok0.sw.list.shape
 have hsum0 := hok0.sw.sum
 refine r_seq (by kernel_rfl) ?_
 refine s_val (v_move (v := _) rfl) ?_
 refine s_val (v_lenS (T := 30) (m := 1) (by kernel_rfl) rfl (show s.v = _ from hv4)) ?_
 refine s_val (v_assign (v := .int .i64 _) rfl) ?_
 refine s_nil ?_
 refine c_seq ?_
 refine r_seq (by kernel_rfl) ?_
 refine s_val (v_move (v := .int .i64 _) rfl) ?_
 refine s_nil ?_
 refine c_block ?_
 refine c_loop (σ := SwG) (fun (t : SwG) f => ∃ g, (SpOk w h ps 3 t ∧ t.bank ≤ 4 ∧ s.xs.length ≤ t.xs.length ∧ (t.xs.length = s.xs.length → t.bank ≤ t.idle) ∧ t.xs.length + cnt t.ps = s.xs.length + cnt s.ps) ∧ f = (upd (upd (upd (upd (upd g 1 (.pointer (some ⟨b1, 0, none⟩))) 2 (.pointer (some ⟨b2, 0, none⟩))) 4 (t.v)) 5 (I s.xs.length)) 14 (I t.bank))) (fun (t : SwG) => Has w t.F (t.E ++ [(b2, .cells zeroH.cells 47), (b1, .cells t.h.cells 47)])) (fun (t : SwG) => 4 - t.bank) ⟨s.F, s.h, s.ps, s.xs, s.v, s.E, 0, s.idle⟩ ⟨_, ⟨⟨⟨hok0.sw.pays, hok0.sw.out, hok0.sw.len, hok0.sw.lc, hok0.sw.list, hok0.sw.sum⟩, hok0.seqs, hok0.good, hok0.near, hok0.cl, hok0.i4, show sweepFrom 0 s.idle s.q = sweepM h.core ps by have e := hok0.goes; rw [hb0] at e; exact e⟩, Nat.zero_le _, Nat.le_refl _, fun _ => Nat.zero_le _, rfl⟩, live5 rfl rfl rfl rfl rfl⟩ (fun w hw => hw) ?_
 rintro t _ ⟨g, ⟨hok, hb4, hxl, hid, hcx⟩, rfl⟩
 refine r_seq (by kernel_rfl) ?_
 refine s_val (v_lss (k := .i64) rfl rfl) ?_
 refine s_nil ?_
 refine c_seq ?_
 refine c_condR rfl rfl (fun h15 => ?_) (fun h15 => ?_)
 · have hk4 : t.bank = 4 := by have := of_decide_eq_false h15; omega
   obtain ⟨a5, c5, hv5⟩ := hok.sw.list.shape
   refine c_exit ?_
   refine n_exit ?_
   refine n_exit ?_
   refine n_bhere ?_
   refine n_then ?_
   refine r_seq (by kernel_rfl) ?_
   refine s_val (v_move (v := _) rfl) ?_
   refine s_val (v_lenS (T := 30) (m := 1) (by kernel_rfl) rfl (show t.v = _ from hv5)) ?_
   refine s_val (v_move (v := .int .i64 _) rfl) ?_
   refine s_val (v_eql (k := .i64) rfl rfl) ?_
   refine s_nil ?_
   refine c_condR rfl rfl (fun h30 => ?_) (fun h30 => ?_)
   · refine c_skip ?_
     refine n_bnormal ?_
     refine n_round (s := s) ⟨t.F, t.h, t.ps, t.xs, t.v, t.E, 0, t.idle⟩ ⟨_, ⟨⟨⟨hok.sw.pays, hok.sw.out, hok.sw.len, hok.sw.lc, hok.sw.list, hok.sw.sum⟩, hok.seqs, hok.good, hok.near, hok.cl, hok.i4, show sweepFrom 0 t.idle t.q = sweepM h.core ps by have e := hok.goes; rw [hk4] at e; exact e⟩, rfl⟩, live3 rfl rfl rfl⟩ (fun _ hw => hw) (by have := of_decide_eq_false h30; dsimp only; omega)
   refine r_seq (by kernel_rfl) ?_
   refine s_val (v_loadA (m := 42) (by kernel_rfl) rfl (.app (.there .here)) (H.size _)) ?_
   refine s_val (v_move (v := _) rfl) ?_
   refine s_storeA (m := 42) (by kernel_rfl) rfl rfl (.app .here) (H.size _) (H.size _) (H.all1 _) ?_
   refine s_val (v_assign (v := _) rfl) ?_
   refine s_nil ?_
   refine c_ret ?_
   refine n_bret ?_
   refine n_ret ?_
   refine n_bret ?_
   refine n_done2F (m := 42) rfl (by decide) (by decide) rfl (by kernel_rfl) (.app .here) (H.size _) (fun w hw => ?_)
   have hx := of_decide_eq_true h30
   have hi4 : ¬ t.idle < 4 := by have := hid (by omega); omega
   have e := hok.goes
   rw [sweep_end hi4] at e
   rw [← e]
   exact hok.sw.done hw
 have hk4 : t.bank < 4 := by have := of_decide_eq_true h15; omega
 have hsum := hok.sw.sum
 have hcl := hok.cl
 have hlent := hok.sw.len
 have hlp := hok.sw.pays.1
 refine c_skip ?_
 refine n_then ?_
 refine c_seq ?_
 refine c_block ?_
 refine r_seq (by kernel_rfl) ?_
 refine s_val (v_move (v := .int .i64 _) rfl) ?_
 refine s_val (v_assign (v := .int .i64 _) rfl) ?_
 refine s_nil ?_
 refine r_seq (by kernel_rfl) ?_
 refine s_val (v_assign (v := .slice _ _ _) rfl) ?_
 refine s_nil ?_
 refine r_seq (by kernel_rfl) ?_
 refine s_val (v_loadA (m := 42) (by kernel_rfl) rfl (.app (.there .here)) (H.size _)) ?_
 refine s_val (v_move (v := .int .i64 _) rfl) ?_
 refine s_callG (by kernel_rfl) (sweepF_mono _ _ _) (fun w hw => g_sweepBank t.h t.ps (t.bank : Int) ((ps.length : Int) - cnt t.ps) w (hok.sw.pays.at hw) (by omega) hok.sw.lc hok.seqs hok.good (by omega) (by omega) (by omega) hok.near) (fun F20 v20 hF20 hR20 => ?_)
 obtain ⟨v1, v2, rfl, ⟨h20, rfl, hc20, hl20, ho20⟩, hi20⟩ := hR20
 obtain ⟨a20, c20, rfl, ia20⟩ := hi20.at
 have hdf := drain_facts (t.bank : Int) ⟨t.h.core, t.ps, []⟩
 simp only [List.length_nil, Nat.zero_add] at hdf
 refine s_val (v_move (v := .tuple _) rfl) ?_
 refine s_val (v_extract rfl rfl) ?_
 refine s_val (v_extract rfl rfl) ?_
 refine s_storeA (m := 42) (by kernel_rfl) rfl rfl (.app (.there .here)) (H.size _) (H.size _) (H.all1 _) ?_
 refine s_val (v_assign (v := .slice _ _ _) rfl) ?_
 refine s_nil ?_
 refine r_list (by kernel_rfl) ?_
 refine s_val (v_move (v := _) rfl) ?_
 refine s_val (v_move (v := .slice _ _ _) rfl) ?_
 refine s_pushAll (e := 3) (by_ := 8) (by kernel_rfl) rfl rfl rfl rfl hok.sw.list (ia20.mono (more_young _ _)) (by omega) (fun v25 E25 hE25 => ?_)
 obtain ⟨i25, hok25, hid25⟩ := hok.step hg hl24 hk4 hF20 hc20 hl20 ho20 hE25
 refine s_val (v_assign (v := _) rfl) ?_
 refine s_end ?_
 refine n_bnormal ?_
 refine n_then ?_
 refine r_list (by kernel_rfl) ?_
 refine s_val (v_add rfl rfl (by omega)) ?_
 refine s_val (v_move (v := .int .i64 _) rfl) ?_
 refine s_end ?_
 refine n_round (s := t) ⟨F20, h20, (drain t.bank ⟨t.h.core, t.ps, []⟩).ps, t.xs ++ (drain t.bank ⟨t.h.core, t.ps, []⟩).xs, v25, E25, t.bank + 1, i25⟩ ⟨_, ⟨hok25, hk4, by rw [List.length_append]; omega, fun e => by
     have e0 : (t.xs ++ (drain t.bank ⟨t.h.core, t.ps, []⟩).xs).length = t.xs.length + (drain t.bank ⟨t.h.core, t.ps, []⟩).xs.length := List.length_append
     have e1 := hid25 (by dsimp only at e ⊢; omega)
     have e2 := hid (by dsimp only at e; omega)
     have := hok.i4
     dsimp only
     omega, by dsimp only; rw [List.length_append]; omega⟩, live5 rfl rfl rfl rfl rfl⟩ (fun _ hw => hw) (by dsimp only; omega)
end Go.Proofs.Ytmkboljfbmlebac
namespace Go.Proofs.Ytmkboljfbmlebac
open Go.RowKit
set_option linter.unusedSimpArgs false
set_option linter.unusedVariables false
set_option maxRecDepth 100000
attribute [local irreducible] cC sC nC rC qw
theorem g_swept (kf : Nat) (w : World) : GivesE Try.prog 49 [.func (.func kf) #[] #[]] w (fun v E => ∃ bb, v = .func (.func 58) #[] #[.pointer (some ⟨bb, 0, none⟩)] ∧ E = [(bb, .cells #[.func (.func kf) #[] #[]] 70 (0, 0))]) := by
 refine givesE_of Try.func49 rfl Try.ntmps49 (by simp) ?_
 refine r_seq (by kernel_rfl) ?_
 refine s_box (v := .func _ _ _) rfl (fun b1 => ?_)
 refine s_val (v_assign (v := _) rfl) ?_
 refine s_nil ?_
 refine r_seq (by kernel_rfl) ?_
 refine s_val (v_makeFunc (vs := [.pointer (some ⟨b1, 0, none⟩)]) rfl) ?_
 refine s_val (v_assign (v := .func _ _ _) rfl) ?_
 refine s_nil ?_
 refine c_ret ?_
 refine n_doneE (E := [_]) (L := []) rfl (by decide) ⟨b1, rfl, rfl⟩
set_option maxHeartbeats 1000000 in
theorem g_swept1 (kf bb : Nat) (F : Addr → Value → Prop) (h : H) (a : ActS) (E : List (Nat × Obj)) (q : NR) (hbody : hasBody Try.prog kf = true) (hs : Short q) (hbox : F ⟨bb, 0, none⟩ (.func (.func kf) #[] #[])) (hin : GivesV Try.prog kf [.agg h.cells, .agg a.cells] F E (NextV 3 q)) : GivesV Try.prog 58 [.agg h.cells, .agg a.cells, .pointer (some ⟨bb, 0, none⟩)] F (E) (NextV 3 (sweptM q)) := by
 refine givesV_of Try.func58 rfl Try.ntmps58 (by simp) (fun w K => ?_)
 obtain ⟨hs1, hs2⟩ := hs
 refine r_seq (by kernel_rfl) ?_
 refine s_box (v := .agg _) rfl (fun b3 => ?_)
 refine s_box (v := .agg _) rfl (fun b4 => ?_)
 refine s_alloc (z := .agg zeroH.cells) (by kernel_rfl) (fun b5 => ?_)
 refine s_alloc (z := .agg (repC 0 0 (.slice none 0 0))) (by kernel_rfl) (fun b6 => ?_)
 refine s_nil ?_
 refine r_seq (by kernel_rfl) ?_
 refine s_val (v_load1o (by kernel_rfl) rfl hbox) ?_
 refine s_val (v_loadA (m := 42) (by kernel_rfl) rfl (.there (.there (.there .here))) (H.size _)) ?_
 refine s_val (v_loadA (m := 5) (by kernel_rfl) rfl (.there (.there .here)) rfl) ?_
 refine s_weak (fun w1 hw => hw.perm (List.Perm.cons _ (List.Perm.cons _ (List.Perm.cons _ List.perm_middle.symm)))) ?_
 refine s_weak (fun w1 hw => hw.perm (List.Perm.cons _ (List.Perm.cons _ List.perm_middle.symm))) ?_
 refine s_weak (fun w1 hw => hw.perm (List.Perm.cons _ List.perm_middle.symm)) ?_
 refine s_weak (fun w1 hw => hw.perm List.perm_middle.symm) ?_
 refine s_callVC rfl hbody hin (fun F12 v12 E12 hF12 hR12 => ?_)
 obtain ⟨h12, vd12, rfl, hc12, hlc12, hp12, hd12⟩ := hR12
 obtain ⟨a12, m12, c12, rfl⟩ := hd12.shape3
 refine s_val (v_move (v := .tuple _) rfl) ?_
 refine s_val (v_extract rfl rfl) ?_
 refine s_val (v_extract rfl rfl) ?_
 refine s_storeA (m := 42) (by kernel_rfl) rfl rfl (.app (.there .here)) (H.size _) (H.size _) (H.all1 _) ?_
 refine s_storeA (m := 3) (by kernel_rfl) rfl rfl (.app .here) rfl rfl rep_all ?_
 refine s_nil ?_
 refine c_seq ?_
 refine r_seq (by kernel_rfl) ?_
 refine s_val (v_field (fo := 0) (by kernel_rfl) rfl) ?_
 refine s_val (v_load1 (v := .int .i64 _) (by kernel_rfl) rfl (.app .here) rfl) ?_
 refine s_val (v_eql (k := .i64) rfl rfl) ?_
 refine s_nil ?_
 refine c_condR rfl rfl (fun h17 => ?_) (fun h17 => ?_)
 · refine c_skip ?_
   refine n_then ?_
   apply f2_seq (j0 := 2) (j1 := 3) (Ψ := (rowV 28 (.agg h12.cells) (rowV 29 (.agg (repC q.code q.n (.slice a12 m12 c12))) AnyV))) (by kernel_rfl) (by kernel_rfl) (by kernel_rfl) (by kernel_rfl) (by kernel_rfl) rfl rfl
   · intro g hl
     have e5 : g 5 = .pointer (some ⟨b5, 0, none⟩) := (hl 5 (of_decide_eq_true (by kernel_rfl))).2 (of_decide_eq_true (by kernel_rfl))
     have e28 : g 28 = .agg h12.cells := (hl 28 (of_decide_eq_true (by kernel_rfl))).1 (of_decide_eq_true (by kernel_rfl))
     refine ⟨rfl, ?_⟩
     refine s_storeA (m := 42) (by kernel_rfl) e5 e28 (.app (.there .here)) (H.size _) (H.size _) (H.all1 _) ?_
     exact ow_end
   · intro g hl
     have e6 : g 6 = .pointer (some ⟨b6, 0, none⟩) := (hl 6 (of_decide_eq_true (by kernel_rfl))).2 (of_decide_eq_true (by kernel_rfl))
     have e29 : g 29 = .agg (repC q.code q.n (.slice a12 m12 c12)) := (hl 29 (of_decide_eq_true (by kernel_rfl))).1 (of_decide_eq_true (by kernel_rfl))
     refine ⟨rfl, ?_⟩
     refine s_storeA (m := 3) (by kernel_rfl) e6 e29 (.app .here) rfl rfl rep_all ?_
     exact ow_end
   · refine ⟨?_, ?_, trivial⟩
     · refine obw_val (v := .agg h12.cells) (fun g hl => ?_)
       have e5 : g 5 = .pointer (some ⟨b5, 0, none⟩) := (hl 5 (of_decide_eq_true (by kernel_rfl))).2 (of_decide_eq_true (by kernel_rfl))
       exact ⟨v_loadA (m := 42) (by kernel_rfl) e5 (.app (.there .here)) (H.size _), rfl⟩
     · refine obw_val (v := .agg (repC q.code q.n (.slice a12 m12 c12))) (fun g hl => ?_)
       have e6 : g 6 = .pointer (some ⟨b6, 0, none⟩) := (hl 6 (of_decide_eq_true (by kernel_rfl))).2 (of_decide_eq_true (by kernel_rfl))
       exact ⟨v_loadA (m := 3) (by kernel_rfl) e6 (.app .here) rfl, rfl⟩
   · refine ⟨?_, ?_, trivial⟩
     · refine obw_val (v := .agg h12.cells) (fun g hl => ?_)
       have e5 : g 5 = .pointer (some ⟨b5, 0, none⟩) := (hl 5 (of_decide_eq_true (by kernel_rfl))).2 (of_decide_eq_true (by kernel_rfl))
       exact ⟨v_loadA (m := 42) (by kernel_rfl) e5 (.app (.there .here)) (H.size _), rfl⟩
     · refine obw_val (v := .agg (repC q.code q.n (.slice a12 m12 c12))) (fun g hl => ?_)
       have e6 : g 6 = .pointer (some ⟨b6, 0, none⟩) := (hl 6 (of_decide_eq_true (by kernel_rfl))).2 (of_decide_eq_true (by kernel_rfl))
       exact ⟨v_loadA (m := 3) (by kernel_rfl) e6 (.app .here) rfl, rfl⟩
   · refine ⟨?_, ?_, trivial⟩
     · refine obw_val (v := .agg h12.cells) (fun g hl => ?_)
       have e5 : g 5 = .pointer (some ⟨b5, 0, none⟩) := (hl 5 (of_decide_eq_true (by kernel_rfl))).2 (of_decide_eq_true (by kernel_rfl))
       exact ⟨v_loadA (m := 42) (by kernel_rfl) e5 (.app (.there .here)) (H.size _), rfl⟩
     · refine obw_val (v := .agg (repC q.code q.n (.slice a12 m12 c12))) (fun g hl => ?_)
       have e6 : g 6 = .pointer (some ⟨b6, 0, none⟩) := (hl 6 (of_decide_eq_true (by kernel_rfl))).2 (of_decide_eq_true (by kernel_rfl))
       exact ⟨v_loadA (m := 3) (by kernel_rfl) e6 (.app .here) rfl, rfl⟩
   intro g hd he
   have e5 : g 5 = .pointer (some ⟨b5, 0, none⟩) := he 5 (of_decide_eq_true (by kernel_rfl))
   have e6 : g 6 = .pointer (some ⟨b6, 0, none⟩) := he 6 (of_decide_eq_true (by kernel_rfl))
   obtain ⟨g1, hg1⟩ : ∃ g1, g = (upd (upd g1 5 (.pointer (some ⟨b5, 0, none⟩))) 6 (.pointer (some ⟨b6, 0, none⟩))) := ⟨g, live2 e5 e6⟩
   rw [hg1]
   refine c_ret ?_
   refine n_doneV2 (m := 42) (m' := 3) rfl (by decide) (by decide) rfl rfl (by kernel_rfl) (by kernel_rfl) (.app (.there .here)) (.app .here) (H.size _) rep_size (fun w1 hw => ?_)
   exact retV_known (hw.sub (List.Sublist.append (List.Sublist.refl _) (List.Sublist.cons _ (List.Sublist.cons _ (List.Sublist.cons _ (List.Sublist.cons _ (List.Sublist.refl _))))))) hF12 hp12 hlc12 hd12 (by simp only [sweptM, h17, cond_false]; rw [hc12])
 refine r_seq (by kernel_rfl) ?_
 refine s_val (v_assign (v := .slice _ _ _) rfl) ?_
 refine s_nil ?_
 refine r_seq (by kernel_rfl) ?_
 refine s_val (v_loadA (m := 42) (by kernel_rfl) rfl (.app (.there .here)) (H.size _)) ?_
 refine s_callG (by kernel_rfl) (sweepF_mono _ _ _) (fun w hw => g_Sweep h12 q.ps w ((hp12.mono (more_young _ _)).at hw) (by have := hp12.1; omega) hlc12) (fun F20 v20 hF20 hR20 => ?_)
 obtain ⟨hy, a22, c22, rfl, hcy, hlcy, hpy, hi22, hsl⟩ := sweepF_open hR20
 refine s_val (v_move (v := .tuple _) rfl) ?_
 refine s_val (v_extract rfl rfl) ?_
 refine s_val (v_extract rfl rfl) ?_
 refine s_storeA (m := 42) (by kernel_rfl) rfl rfl (.app (.there .here)) (H.size _) (H.size _) (H.all1 _) ?_
 refine s_val (v_assign (v := .slice _ _ _) rfl) ?_
 refine s_nil ?_
 refine r_list (by kernel_rfl) ?_
 refine s_val (v_field (fo := 2) (by kernel_rfl) rfl) ?_
 refine s_val (v_load1 (v := .slice _ _ _) (by kernel_rfl) rfl (.app .here) rfl) ?_
 refine s_val (v_move (v := .slice _ _ _) rfl) ?_
 refine s_pushAll (e := 3) (by_ := 8) (by kernel_rfl) rfl rfl rfl rfl hd12 (hi22.mono (more_young _ _)) (by omega) (fun v26 E26 hE26 => ?_)
 obtain ⟨a26, m26, c26, rfl⟩ := hE26.shape3
 refine s_val (v_field (fo := 2) (by kernel_rfl) rfl) ?_
 refine s_store1 (v := .slice _ _ _) (by kernel_rfl) rfl rfl (.app .here) rep_setD rfl ?_
 refine s_end ?_
 refine n_then ?_
 apply f2_seq (j0 := 2) (j1 := 3) (Ψ := (rowV 28 (.agg hy.cells) (rowV 29 (.agg (repC q.code q.n (.slice a26 m26 c26))) AnyV))) (by kernel_rfl) (by kernel_rfl) (by kernel_rfl) (by kernel_rfl) (by kernel_rfl) rfl rfl
 · intro g hl
   have e5 : g 5 = .pointer (some ⟨b5, 0, none⟩) := (hl 5 (of_decide_eq_true (by kernel_rfl))).2 (of_decide_eq_true (by kernel_rfl))
   have e28 : g 28 = .agg hy.cells := (hl 28 (of_decide_eq_true (by kernel_rfl))).1 (of_decide_eq_true (by kernel_rfl))
   refine ⟨rfl, ?_⟩
   refine s_storeA (m := 42) (by kernel_rfl) e5 e28 (.app (.there .here)) (H.size _) (H.size _) (H.all1 _) ?_
   exact ow_end
 · intro g hl
   have e6 : g 6 = .pointer (some ⟨b6, 0, none⟩) := (hl 6 (of_decide_eq_true (by kernel_rfl))).2 (of_decide_eq_true (by kernel_rfl))
   have e29 : g 29 = .agg (repC q.code q.n (.slice a26 m26 c26)) := (hl 29 (of_decide_eq_true (by kernel_rfl))).1 (of_decide_eq_true (by kernel_rfl))
   refine ⟨rfl, ?_⟩
   refine s_storeA (m := 3) (by kernel_rfl) e6 e29 (.app .here) rfl rfl rep_all ?_
   exact ow_end
 · refine ⟨?_, ?_, trivial⟩
   · refine obw_val (v := .agg hy.cells) (fun g hl => ?_)
     have e5 : g 5 = .pointer (some ⟨b5, 0, none⟩) := (hl 5 (of_decide_eq_true (by kernel_rfl))).2 (of_decide_eq_true (by kernel_rfl))
     exact ⟨v_loadA (m := 42) (by kernel_rfl) e5 (.app (.there .here)) (H.size _), rfl⟩
   · refine obw_val (v := .agg (repC q.code q.n (.slice a26 m26 c26))) (fun g hl => ?_)
     have e6 : g 6 = .pointer (some ⟨b6, 0, none⟩) := (hl 6 (of_decide_eq_true (by kernel_rfl))).2 (of_decide_eq_true (by kernel_rfl))
     exact ⟨v_loadA (m := 3) (by kernel_rfl) e6 (.app .here) rfl, rfl⟩
 · refine ⟨?_, ?_, trivial⟩
   · refine obw_val (v := .agg hy.cells) (fun g hl => ?_)
     have e5 : g 5 = .pointer (some ⟨b5, 0, none⟩) := (hl 5 (of_decide_eq_true (by kernel_rfl))).2 (of_decide_eq_true (by kernel_rfl))
     exact ⟨v_loadA (m := 42) (by kernel_rfl) e5 (.app (.there .here)) (H.size _), rfl⟩
   · refine obw_val (v := .agg (repC q.code q.n (.slice a26 m26 c26))) (fun g hl => ?_)
     have e6 : g 6 = .pointer (some ⟨b6, 0, none⟩) := (hl 6 (of_decide_eq_true (by kernel_rfl))).2 (of_decide_eq_true (by kernel_rfl))
     exact ⟨v_loadA (m := 3) (by kernel_rfl) e6 (.app .here) rfl, rfl⟩
 · refine ⟨?_, ?_, trivial⟩
   · refine obw_val (v := .agg hy.cells) (fun g hl => ?_)
     have e5 : g 5 = .pointer (some ⟨b5, 0, none⟩) := (hl 5 (of_decide_eq_true (by kernel_rfl))).2 (of_decide_eq_true (by kernel_rfl))
     exact ⟨v_loadA (m := 42) (by kernel_rfl) e5 (.app (.there .here)) (H.size _), rfl⟩
   · refine obw_val (v := .agg (repC q.code q.n (.slice a26 m26 c26))) (fun g hl => ?_)
     have e6 : g 6 = .pointer (some ⟨b6, 0, none⟩) := (hl 6 (of_decide_eq_true (by kernel_rfl))).2 (of_decide_eq_true (by kernel_rfl))
     exact ⟨v_loadA (m := 3) (by kernel_rfl) e6 (.app .here) rfl, rfl⟩
 intro g hd he
 have e5 : g 5 = .pointer (some ⟨b5, 0, none⟩) := he 5 (of_decide_eq_true (by kernel_rfl))
 have e6 : g 6 = .pointer (some ⟨b6, 0, none⟩) := he 6 (of_decide_eq_true (by kernel_rfl))
 obtain ⟨g1, hg1⟩ : ∃ g1, g = (upd (upd g1 5 (.pointer (some ⟨b5, 0, none⟩))) 6 (.pointer (some ⟨b6, 0, none⟩))) := ⟨g, live2 e5 e6⟩
 rw [hg1]
 refine c_ret ?_
 refine n_doneV2 (m := 42) (m' := 3) rfl (by decide) (by decide) rfl rfl (by kernel_rfl) (by kernel_rfl) (.app (.there .here)) (.app .here) (H.size _) rep_size (fun w1 hw => ?_)
 have hq0 : q.code = 0 := of_decide_eq_true h17
 have hps : PaysIn (Young w F20) hy.pa hy.pl (sweepM h12.core q.ps).ps := by
   rcases hpy with e | e
   · rw [e.1, e.2.1, e.2.2]; exact hp12.mono (young_mono hF20)
   · exact e
 exact retV_known (d := q.done ++ (sweepM h12.core q.ps).xs) (hw.sub (List.Sublist.append (List.Sublist.refl _) (List.Sublist.cons _ (List.Sublist.cons _ (List.Sublist.cons _ (List.Sublist.cons _ (List.Sublist.refl _))))))) (fun a v h => hF20 a v (hF12 a v h)) hps hlcy (by simpa using hE26) (by simp only [sweptM, h17, cond_true, sweepN]; rw [← hc12, hcy, hq0])
end Go.Proofs.Ytmkboljfbmlebac
