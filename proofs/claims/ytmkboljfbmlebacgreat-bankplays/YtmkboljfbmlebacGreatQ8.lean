/- What the laws of this place stand on, part 8. Each part names its own conditions in what it states. -/
import Derived.Test.YtmkboljfbmlebacGreatQ7
namespace Go.Proofs.YtmkboljfbmlebacGreat
open Go.RowKit
set_option linter.unusedSimpArgs false
set_option linter.unusedVariables false
set_option maxRecDepth 100000
attribute [local irreducible] cC sC nC rC qw
set_option maxHeartbeats 4000000 in
theorem gr_NextHouse (h : H) (ps : List PayS) (a : ActS) (w : World) (hp : PaysIn (At w) h.pa h.pl ps) (hb : h.pl * 48 ≤ 281474976710656) (hlc : h.pl ≤ h.pc) : GivesF Tryz.prog 25 [.agg h.cells, .agg a.cells] w (NextF h ps (nextM h.core ps a)) := by
 refine givesF_of Tryz.func25 rfl Tryz.ntmps25 (by simp) (r_seq (by kernel_rfl) (s_box (v := .agg _) rfl (fun b2 => ?_)))
 refine s_box (v := .agg _) rfl (fun b3 => ?_)
 refine s_alloc (z := .agg zeroH.cells) (by kernel_rfl) (fun b4 => ?_)
 refine s_alloc (z := .agg (repC 0 0 (.slice none 0 0))) (by kernel_rfl) (fun b5 => ?_)
 refine s_nil (r_seq (by kernel_rfl) (s_val (v_makeFunc (vs := [.pointer (some ⟨b2, 0, none⟩)]) rfl) (s_val (v_assign (v := .func _ _ _) rfl) (s_nil (c_seq (r_seq (by kernel_rfl) (s_val (v_loadA (m := 42) (by kernel_rfl) rfl (.there (.there (.there .here))) (H.size _)) (s_call (by kernel_rfl) (fun w hw => gr_IsHouse _ ps w (hp.at hw) hb hlc) (s_val (v_not rfl) (s_nil (c_condN rfl rfl (fun h18 => ?_) (fun h18 => ?_))))))))))))
 · have hgc : goodB h.core ps = false := (isHouse_eq hp.1).symm.trans h18
   refine r_seq (by kernel_rfl) (s_val (v_move (v := .func _ _ _) rfl) (s_callC (k := 32) (caps := [.pointer (some ⟨b2, 0, none⟩)]) rfl (by kernel_rfl) (fun w hw => gr_no h b2 1 w (fun j v hv => by rw [Nat.zero_add]; exact (cell_has hw (.there (.there (.there .here)))).trans hv)) (s_val (v_extract rfl rfl) (s_val (v_extract rfl rfl) (s_storeA (m := 42) (by kernel_rfl) rfl rfl (.there .here) (H.size _) (H.size _) (H.all1 _) (s_storeA (m := 3) (by kernel_rfl) rfl rfl .here rfl rfl rep_all (s_nil (c_ret (n_ret (n_done2CF (m := 42) (m' := 3) rfl (by decide) (by decide) rfl rfl (by kernel_rfl) (by kernel_rfl) (.there .here) .here (H.size _) rep_size (fun w hw => ?_)))))))))))
   exact nextF_err (by simp only [nextM, h18, hgc, cond_true, cond_false, Bool.not_true, Bool.not_false, Bool.or_true, Bool.true_or, Bool.or_false, Bool.false_or]) hlc
 have hgc : goodB h.core ps = true := (isHouse_eq hp.1).symm.trans h18
 have h24 : h.pl ≤ 24 := by have := (good_pays hgc).2.2; have := hp.1; omega
 have hnx : 0 ≤ h.next ∧ h.next ≤ 1048576 := (good_iff.1 hgc).next
 refine c_skip (n_then (r_seq (by kernel_rfl) (s_val (v_loadA (m := 42) (by kernel_rfl) rfl (.there (.there (.there .here))) (H.size _)) (s_callE (by kernel_rfl) (fun w hw => gr_CopyHouseL h ps w (hp.at hw) h24) (fun v24 E24 hR24 => ?_)))))
 obtain ⟨pa24, pc24, rfl, hE24⟩ := hR24
 have hpe24 := hE24.pays hp.1
 refine s_alloc (z := .agg zeroH.cells) (by kernel_rfl) (fun b7 => ?_)
 refine s_storeA (m := 42) (by kernel_rfl) rfl rfl .here (H.size _) (H.size _) (H.all1 _) (s_nil (r_seq (by kernel_rfl) (s_val (v_build (vs := []) (cs := repC 0 0 (.slice none 0 0)) rfl (by kernel_rfl)) (s_alloc (z := .agg (repC 0 0 (.slice none 0 0))) (by kernel_rfl) (fun b8 => ?_)))))
 refine s_storeA (m := 3) (by kernel_rfl) rfl rfl .here rfl rfl rep_all (s_nil (r_seq (by kernel_rfl) (s_val (v_fd 1 (by kernel_rfl) rfl) (s_val (v_ldI (by kernel_rfl) rfl (.there (.there (.app (.there (.there .here))))) rfl) (s_call (by kernel_rfl) (fun w hw => gr_within _ _ _ w) (s_val (v_asB rfl) (s_nil (c_cut (fun f => ∃ g, f = (upd (upd (upd (upd (upd (upd (upd (upd (upd g 2 (.pointer (some ⟨b2, 0, none⟩))) 3 (.pointer (some ⟨b3, 0, none⟩))) 4 (.pointer (some ⟨b4, 0, none⟩))) 5 (.pointer (some ⟨b5, 0, none⟩))) 6 (.func (.func 32) #[] #[.pointer (some ⟨b2, 0, none⟩)])) 7 (.pointer (some ⟨b7, 0, none⟩))) 8 (.pointer (some ⟨b8, 0, none⟩))) 9 (.bool (withinB a.a 0 3))) 10 (.bool (waitsB ps a.a)))) (Has w (At w) ((b8, .cells (repC 0 (0) (.slice none 0 0)) 31) :: (b7, .cells ({ h with pa := pa24, pc := pc24 } : H).cells 43) :: (E24 ++ [(b5, .cells ((repC 0 0 (.slice none 0 0))) 31), (b4, .cells zeroH.cells 43), (b3, .cells a.cells 34), (b2, .cells h.cells 43)]))) ?_ ?_))))))))
 · refine r_list (by kernel_rfl) (s_val (v_fd 1 (by kernel_rfl) rfl) (s_val (v_ldI (by kernel_rfl) rfl (.there (.there (.app (.there (.there .here))))) rfl) (s_val (v_fd 40 (by kernel_rfl) rfl) (s_val (v_load1 (v := .slice _ _ _) (by kernel_rfl) rfl (.there (.there (.app (.there (.there (.there .here)))))) (H.at_pays _)) (s_val (v_lenS (T := 41) (m := 6) (by kernel_rfl) rfl rfl) (s_val (v_sub rfl rfl (by omega)) (s_call (by kernel_rfl) (fun w hw => gr_within _ _ _ w) (s_val (v_mvB rfl) (s_splitR (s := 36) rfl (fun h36 => ?_) (fun h36 => ?_))))))))))
   · refine s_pass rfl rfl h36 (s_pass rfl rfl h36 (s_pass rfl rfl h36 (s_pass rfl rfl h36 (s_pass rfl rfl h36 (s_pass rfl rfl h36 (s_pass rfl rfl h36 (s_pass rfl rfl h36 (s_pass rfl rfl h36 (s_pass rfl rfl h36 (s_pass rfl rfl h36 (s_pass rfl rfl h36 (s_pass rfl rfl h36 (s_pass rfl rfl h36 (s_val (v_pickF (v := .bool _) rfl h36 rfl) (s_val (v_asB rfl) (s_end (n_cut ⟨_, live9 rfl rfl rfl rfl rfl rfl rfl rfl (congrArg Value.bool (waits_out (by have := hp.1; omega) h36))⟩ (fun _ hw => hw))))))))))))))))))
   obtain ⟨hn0, hn1⟩ := within_iff.1 h36
   obtain ⟨p, hpn, hd, ht⟩ := hp.get (k := a.a.toNat) (by omega)
   obtain ⟨b, o, hpa, hc⟩ := hp.some (k := a.a.toNat) (by omega)
   refine s_want rfl rfl h36 (s_val (v_fd 40 (by kernel_rfl) rfl) (s_want rfl rfl h36 (s_val (v_load1 (v := .slice _ _ _) (by kernel_rfl) rfl (.there (.there (.app (.there (.there (.there .here)))))) (H.at_pays _)) (s_want rfl rfl h36 (s_val (v_fd 1 (by kernel_rfl) rfl) (s_want rfl rfl h36 (s_val (v_ldI (by kernel_rfl) rfl (.there (.there (.app (.there (.there .here))))) rfl) (s_want rfl rfl h36 (s_val (v_max rfl rfl) (s_want rfl rfl h36 (s_val (v_fd 40 (by kernel_rfl) rfl) (s_want rfl rfl h36 (s_val (v_load1 (v := .slice _ _ _) (by kernel_rfl) rfl (.there (.there (.app (.there (.there (.there .here)))))) (H.at_pays _)) (s_want rfl rfl h36 (s_val (v_lenS (T := 41) (m := 6) (by kernel_rfl) rfl rfl) (s_want rfl rfl h36 (s_val (v_sub rfl rfl (by omega)) (s_want rfl rfl h36 (s_val ((v_min rfl rfl).to (min_max hn0 hn1)) ?_)))))))))))))))))))
   refine s_want rfl rfl h36 (s_val (v_idxS (size := 6) (k := .i64) (by kernel_rfl) (congrArg (fun a => Value.slice a h.pl h.pc) hpa) rfl ⟨by omega, by omega⟩) (s_want rfl rfl h36 (s_val (v_fd 4 (by kernel_rfl) rfl) (s_want rfl rfl h36 (s_val (v_load1o (by kernel_rfl) rfl (hc _ p hpn 4 _ rfl)) (s_want rfl rfl h36 (s_val (v_eql (k := .i64) rfl rfl) (s_val (v_pickT (v := .bool _) rfl h36 rfl) (s_val (v_asB rfl) (s_end (n_cut ⟨_, live9 rfl rfl rfl rfl rfl rfl rfl rfl (congrArg Value.bool (waits_in hn0 hpn))⟩ (fun _ hw => hw))))))))))))
 rintro _ ⟨g, rfl⟩
 refine c_seq (r_seq (by kernel_rfl) (s_val (v_fd 0 (by kernel_rfl) rfl) (s_val (v_ldI (by kernel_rfl) rfl (.there (.there (.app (.there (.there .here))))) rfl) (s_nil (c_block (r_seq (by kernel_rfl) (s_val (v_eql (k := .i64) rfl rfl) (s_val (v_asB rfl) (s_nil (c_cond rfl rfl (fun h58 => ?_) (fun h58 => ?_)))))))))))
 · refine r_seq (by kernel_rfl) (s_val (v_fd 1 (by kernel_rfl) rfl) (s_val (v_ldI (by kernel_rfl) rfl (.there (.there (.app (.there (.there .here))))) rfl) (s_val (v_fd 2 (by kernel_rfl) rfl) (s_val (v_ldI (by kernel_rfl) rfl (.there (.there (.app (.there (.there .here))))) rfl) (s_val (v_fd 4 (by kernel_rfl) rfl) (s_val (v_ldI (by kernel_rfl) rfl (.there (.there (.app (.there (.there .here))))) rfl) (s_val (v_fd 3 (by kernel_rfl) rfl) (s_val (v_ldI (by kernel_rfl) rfl (.there (.there (.app (.there (.there .here))))) rfl) (s_val (v_fd 41 (by kernel_rfl) rfl) (s_val (v_ldI (by kernel_rfl) rfl (.there (.there (.app (.there (.there (.there .here)))))) (H.at_next _)) (s_val (v_build (vs := [(0, .int .i64 _), (1, .int .i64 _), (2, .int .i64 _), (3, .int .i64 _), (4, .int .i64 _), (5, .int .i64 _)]) (cs := (PayS.cells ⟨a.a, a.b, a.n, a.c, 1, h.next⟩)) rfl (by kernel_rfl)) (s_alloc (z := zeroOf Tryz.prog 67) (by kernel_rfl) (fun b11 => ?_)))))))))))))
   refine s_storeA (m := 6) (by kernel_rfl) rfl rfl .here (by kernel_rfl) rfl (PayS.all1 _) (s_nil (c_seq (r_seq (by kernel_rfl) (s_val (v_loadA (m := 6) (by kernel_rfl) rfl .here rfl) (s_call (by kernel_rfl) (fun w hw => gr_IsPay _ w) (s_val (v_not rfl) (s_nil (c_condN rfl rfl (fun h73 => ?_) (fun h73 => ?_)))))))))
   · have q1 : goodPayB (newPay h.core a) = false := (isPay_eq _).symm.trans h73
     refine r_seq (by kernel_rfl) (s_val (v_move (v := .func _ _ _) rfl) (s_callC (k := 32) (caps := [.pointer (some ⟨b2, 0, none⟩)]) rfl (by kernel_rfl) (fun w hw => gr_no h b2 3 w (fun j v hv => by rw [Nat.zero_add]; exact (cell_has hw (.there (.there (.there (.app (.there (.there (.there .here)))))))).trans hv)) (s_val (v_extract rfl rfl) (s_val (v_extract rfl rfl) (s_storeA (m := 42) (by kernel_rfl) rfl rfl (.there (.there (.there (.app (.there .here))))) (H.size _) (H.size _) (H.all1 _) (s_storeA (m := 3) (by kernel_rfl) rfl rfl (.there (.there (.there (.app .here)))) rfl rfl rep_all (s_nil (c_ret (n_ret (n_bret (n_ret (n_done2CF (m := 42) (m' := 3) rfl (by decide) (by decide) rfl rfl (by kernel_rfl) (by kernel_rfl) (.there (.there (.there (.app (.there .here))))) (.there (.there (.there (.app .here)))) (H.size _) rep_size (fun w hw => ?_)))))))))))))
     exact nextF_err (by simp only [nextM, h18, h58, h73, hgc, q1, cond_true, cond_false, Bool.not_true, Bool.not_false, Bool.or_true, Bool.true_or, Bool.or_false, Bool.false_or]) hlc
   have q1 : goodPayB (newPay h.core a) = true := (isPay_eq _).symm.trans h73
   refine c_skip (n_then (c_seq (r_seq (by kernel_rfl) (s_val (v_fd 40 (by kernel_rfl) rfl) (s_val (v_load1 (v := .slice _ _ _) (by kernel_rfl) rfl (.there (.there (.there (.app (.there (.there (.there .here))))))) (H.at_pays _)) (s_val (v_lenS (T := 41) (m := 6) (by kernel_rfl) rfl rfl) (s_val (v_eql (k := .i64) rfl rfl) (s_val (v_mvB rfl) (s_split (s := 82) rfl (fun h82 => ?_) (fun h82 => ?_))))))))))
   · have q2 : decide (ps.length = 24) = true := decide_eq_true (by have := of_decide_eq_true h82; have := hp.1; omega)
     refine s_pass rfl rfl h82 (s_pass rfl rfl h82 (s_pass rfl rfl h82 (s_val (v_pickT (v := .bool _) rfl h82 rfl) (s_nil (c_condTh rfl rfl rfl (r_seq (by kernel_rfl) (s_val (v_move (v := .func _ _ _) rfl) (s_callC (k := 32) (caps := [.pointer (some ⟨b2, 0, none⟩)]) rfl (by kernel_rfl) (fun w hw => gr_no h b2 5 w (fun j v hv => by rw [Nat.zero_add]; exact (cell_has hw (.there (.there (.there (.app (.there (.there (.there .here)))))))).trans hv)) (s_val (v_extract rfl rfl) (s_val (v_extract rfl rfl) (s_storeA (m := 42) (by kernel_rfl) rfl rfl (.there (.there (.there (.app (.there .here))))) (H.size _) (H.size _) (H.all1 _) (s_storeA (m := 3) (by kernel_rfl) rfl rfl (.there (.there (.there (.app .here)))) rfl rfl rep_all (s_nil (c_ret (n_ret (n_bret (n_ret (n_done2CF (m := 42) (m' := 3) rfl (by decide) (by decide) rfl rfl (by kernel_rfl) (by kernel_rfl) (.there (.there (.there (.app (.there .here))))) (.there (.there (.there (.app .here)))) (H.size _) rep_size (fun w hw => ?_)))))))))))))))))))
     exact nextF_err (by simp only [nextM, h18, h58, h73, h82, hgc, q1, q2, cond_true, cond_false, Bool.not_true, Bool.not_false, Bool.or_true, Bool.true_or, Bool.or_false, Bool.false_or]) hlc
   have q2 : decide (ps.length = 24) = false := decide_eq_false (by have := of_decide_eq_false h82; have := hp.1; omega)
   refine s_want rfl rfl h82 (s_val (v_fd 41 (by kernel_rfl) rfl) (s_want rfl rfl h82 (s_val (v_ldI (by kernel_rfl) rfl (.there (.there (.there (.app (.there (.there (.there .here))))))) (H.at_next _)) (s_want rfl rfl h82 (s_val (v_eql (k := .i64) rfl rfl) (s_val (v_pickF (v := .bool _) rfl h82 rfl) (s_nil (c_cond rfl rfl (fun h86 => ?_) (fun h86 => ?_)))))))))
   · have q3 : decide (h.core.next = 1048576) = true := h86
     refine r_seq (by kernel_rfl) (s_val (v_move (v := .func _ _ _) rfl) (s_callC (k := 32) (caps := [.pointer (some ⟨b2, 0, none⟩)]) rfl (by kernel_rfl) (fun w hw => gr_no h b2 5 w (fun j v hv => by rw [Nat.zero_add]; exact (cell_has hw (.there (.there (.there (.app (.there (.there (.there .here)))))))).trans hv)) (s_val (v_extract rfl rfl) (s_val (v_extract rfl rfl) (s_storeA (m := 42) (by kernel_rfl) rfl rfl (.there (.there (.there (.app (.there .here))))) (H.size _) (H.size _) (H.all1 _) (s_storeA (m := 3) (by kernel_rfl) rfl rfl (.there (.there (.there (.app .here)))) rfl rfl rep_all (s_nil (c_ret (n_ret (n_bret (n_ret (n_done2CF (m := 42) (m' := 3) rfl (by decide) (by decide) rfl rfl (by kernel_rfl) (by kernel_rfl) (.there (.there (.there (.app (.there .here))))) (.there (.there (.there (.app .here)))) (H.size _) rep_size (fun w hw => ?_)))))))))))))
     exact nextF_err (by simp only [nextM, h18, h58, h73, h82, h86, hgc, q1, q2, q3, cond_true, cond_false, Bool.not_true, Bool.not_false, Bool.or_true, Bool.true_or, Bool.or_false, Bool.false_or]) hlc
   have q3 : decide (h.core.next = 1048576) = false := h86
   have hn3 := of_decide_eq_false h86
   refine c_skip (n_then (r_seq (by kernel_rfl) (s_val (v_fd 40 (by kernel_rfl) rfl) (s_val (v_load1 (v := .slice _ _ _) (by kernel_rfl) rfl (.there (.there .here)) (H.at_pays _)) (s_val (v_lenS (T := 41) (m := 6) (by kernel_rfl) rfl rfl) (s_val (v_fd 1 (by kernel_rfl) rfl) (s_store1 (v := .int .i64 _) (by kernel_rfl) rfl rfl (.there .here) rep_setN rfl (s_nil (c_weak (fun w hw => hw.perm (perm_front (A := [_, _, _]) (E := E24))) (r_seq (by kernel_rfl) (s_val (v_fd 40 (by kernel_rfl) rfl) (s_val (v_load1 (v := .slice _ _ _) (by kernel_rfl) rfl (.app (.there (.there .here))) (H.at_pays _)) (s_val (v_loadA (m := 6) (by kernel_rfl) rfl (.app .here) rfl) (s_build1 (v := .agg _) (e := 67) (m := 6) (by_ := 48) (by kernel_rfl) rfl rfl rfl (fill_one rfl) (fun b98 => ?_)))))))))))))))
   refine s_push (e := 67) (m := 6) (by_ := 48) (by kernel_rfl) rfl rfl rfl rfl rfl hE24 rfl (PayS.all1 _) (by omega) (fun v99 E99 hE99 => ?_)
   obtain ⟨a99, c99, rfl⟩ := hE99.shape
   have hpe99 : PaysE a99 (h.pl + 1) c99 (ps ++ [newPay h.core a]) E99 := ListE.pays (by rw [← flatC_snoc]; exact hE99) (by simp [hp.1])
   refine s_val (v_fd 40 (by kernel_rfl) rfl) (s_store1 (v := _) (by kernel_rfl) rfl rfl (.app (.there (.there .here))) (H.set_pays _) rfl (s_nil (r_list (by kernel_rfl) (s_val (v_fd 41 (by kernel_rfl) rfl) (s_val (v_ldI (by kernel_rfl) rfl (.app (.there (.there .here))) (H.at_next _)) (s_val (v_add rfl rfl (by (try dsimp only); omega)) (s_val (v_fd 41 (by kernel_rfl) rfl) (s_store1 (v := .int .i64 _) (by kernel_rfl) rfl rfl (.app (.there (.there .here))) (H.set_next _) rfl (s_end (n_bnormal (n_then (r_seq (by kernel_rfl) (s_val (v_loadA (m := 42) (by kernel_rfl) rfl (.app (.there (.there .here))) (H.size _)) (s_callG (by kernel_rfl) (sweepF_mono _ _ _) (fun w hw => gr_SweepHouse _ (ps ++ [newPay h.core a]) w (hpe99.known (at_known hw (fun _ hq => (List.mem_append_left _ hq)))) (by dsimp only; omega) hpe99.2.1) (fun F339 v339 hF339 hR339 => ?_)))))))))))))))
   obtain ⟨hy, a341, c341, rfl, hcy, hlcy, hpy, hi341, hsl⟩ := sweepF_open hR339
   have hpsl : (ps ++ [newPay h.core a]).length ≤ 25 := by simp only [List.length_append, List.length_cons, List.length_nil]; have := hp.1; omega
   refine s_val (v_move (v := .tuple _) rfl) (s_val (v_extract rfl rfl) (s_val (v_extract rfl rfl) (s_alloc (z := .agg zeroH.cells) (by kernel_rfl) (fun b13 => ?_))))
   refine s_storeA (m := 42) (by kernel_rfl) rfl rfl .here (H.size _) (H.size _) (H.all1 _) (s_val (v_assign (v := .slice _ _ _) rfl) (s_nil ?_))
   
   refine r_seq (by kernel_rfl) (s_val (v_fd 2 (by kernel_rfl) rfl) (s_val (v_load1 (v := .slice _ _ _) (by kernel_rfl) rfl (.there (.app (.there .here))) rfl) (s_val (v_move (v := .slice _ _ _) rfl) (s_pushAll (E := []) (n := 0) (xs := []) (e := 3) (by_ := 8) (by kernel_rfl) rfl rfl rfl rfl (listE_nil _ _) (hi341.mono (more_young _ _)) (bytes_ok (Nat.zero_le _) hsl hpsl) (fun v345 E345 hE345 => ?_)))))
   obtain ⟨a345, m345, c345, rfl⟩ := hE345.shape3
   refine s_val (v_fd 2 (by kernel_rfl) rfl) (s_store1 (v := .slice _ _ _) (by kernel_rfl) rfl rfl (.app (.there (.app (.there .here)))) rep_setD rfl (s_nil ?_))
   apply f2_seq (j0 := 2) (j1 := 3) (Ψ := (rowV 347 (.agg hy.cells) (rowV 348 (.agg (repC 0 ((h.pl : Int)) (.slice a345 m345 c345))) AnyV))) (by kernel_rfl) (by kernel_rfl) (by kernel_rfl) (by kernel_rfl) (by kernel_rfl) rfl rfl
   · intro g hl
     have e4 : g 4 = .pointer (some ⟨b4, 0, none⟩) := (hl 4 (dK (by kernel_rfl))).2 (dK (by kernel_rfl))
     have e347 : g 347 = .agg hy.cells := (hl 347 (dK (by kernel_rfl))).1 (dK (by kernel_rfl))
     refine ⟨rfl, ?_⟩
     refine s_storeA (m := 42) (by kernel_rfl) e4 e347 (.app (.there (.app (.there (.there (.there (.there .here))))))) (H.size _) (H.size _) (H.all1 _) ?_
     exact ow_end
   · intro g hl
     have e5 : g 5 = .pointer (some ⟨b5, 0, none⟩) := (hl 5 (dK (by kernel_rfl))).2 (dK (by kernel_rfl))
     have e348 : g 348 = .agg (repC 0 ((h.pl : Int)) (.slice a345 m345 c345)) := (hl 348 (dK (by kernel_rfl))).1 (dK (by kernel_rfl))
     refine ⟨rfl, ?_⟩
     refine s_storeA (m := 3) (by kernel_rfl) e5 e348 (.app (.there (.app (.there (.there (.there .here)))))) rfl rfl rep_all ?_
     exact ow_end
   · refine ⟨?_, ?_, trivial⟩
     · refine obw_val (v := .agg hy.cells) (fun g hl => ?_)
       have e13 : g 13 = .pointer (some ⟨b13, 0, none⟩) := (hl 13 (dK (by kernel_rfl))).2 (dK (by kernel_rfl))
       exact ⟨v_loadA (m := 42) (by kernel_rfl) e13 (.app .here) (H.size _), rfl⟩
     · refine obw_val (v := .agg (repC 0 ((h.pl : Int)) (.slice a345 m345 c345))) (fun g hl => ?_)
       have e8 : g 8 = .pointer (some ⟨b8, 0, none⟩) := (hl 8 (dK (by kernel_rfl))).2 (dK (by kernel_rfl))
       exact ⟨v_loadA (m := 3) (by kernel_rfl) e8 (.app (.there (.app (.there .here)))) rfl, rfl⟩
   · refine ⟨?_, ?_, trivial⟩
     · refine obw_val (v := .agg hy.cells) (fun g hl => ?_)
       have e13 : g 13 = .pointer (some ⟨b13, 0, none⟩) := (hl 13 (dK (by kernel_rfl))).2 (dK (by kernel_rfl))
       exact ⟨v_loadA (m := 42) (by kernel_rfl) e13 (.app .here) (H.size _), rfl⟩
     · refine obw_val (v := .agg (repC 0 ((h.pl : Int)) (.slice a345 m345 c345))) (fun g hl => ?_)
       have e8 : g 8 = .pointer (some ⟨b8, 0, none⟩) := (hl 8 (dK (by kernel_rfl))).2 (dK (by kernel_rfl))
       exact ⟨v_loadA (m := 3) (by kernel_rfl) e8 (.app (.there (.app (.there .here)))) rfl, rfl⟩
   · refine ⟨?_, ?_, trivial⟩
     · refine obw_val (v := .agg hy.cells) (fun g hl => ?_)
       have e13 : g 13 = .pointer (some ⟨b13, 0, none⟩) := (hl 13 (dK (by kernel_rfl))).2 (dK (by kernel_rfl))
       exact ⟨v_loadA (m := 42) (by kernel_rfl) e13 (.app .here) (H.size _), rfl⟩
     · refine obw_val (v := .agg (repC 0 ((h.pl : Int)) (.slice a345 m345 c345))) (fun g hl => ?_)
       have e8 : g 8 = .pointer (some ⟨b8, 0, none⟩) := (hl 8 (dK (by kernel_rfl))).2 (dK (by kernel_rfl))
       exact ⟨v_loadA (m := 3) (by kernel_rfl) e8 (.app (.there (.app (.there .here)))) rfl, rfl⟩
   intro g hd he
   have e4 : g 4 = .pointer (some ⟨b4, 0, none⟩) := he 4 (dK (by kernel_rfl))
   have e5 : g 5 = .pointer (some ⟨b5, 0, none⟩) := he 5 (dK (by kernel_rfl))
   obtain ⟨g1, hg1⟩ : ∃ g1, g = (upd (upd g1 4 (.pointer (some ⟨b4, 0, none⟩))) 5 (.pointer (some ⟨b5, 0, none⟩))) := ⟨g, live2 e4 e5⟩
   rw [hg1]
   refine c_ret (n_done2CF (m := 42) (m' := 3) rfl (by decide) (by decide) rfl rfl (by kernel_rfl) (by kernel_rfl) (.app (.there (.app (.there (.there (.there (.there .here))))))) (.app (.there (.app (.there (.there (.there .here)))))) (H.size _) rep_size (fun w hw => ?_))
   refine nextF_sweep (psx := (ps ++ [newPay h.core a])) (d := []) (E := E345) ?_ hcy hlcy (hpe99.known (own_known hw (fun _ hq => (List.mem_append_right _ (List.mem_cons_of_mem _ (List.mem_append_left _ hq)))))) (hpy.imp id fun q => q.mono (young_fresh hw)) hE345 (own_known hw (fun _ hq => (List.mem_append_left _ hq)))
   simp only [nextM, h18, h58, h73, h82, h86, hgc, q1, q2, q3, cond_true, cond_false, Bool.not_true, Bool.not_false, Bool.or_true, Bool.true_or, Bool.or_false, Bool.false_or]
   exact congrArg (fun m : Nat => sweepN _ _ (m : Int) []) hp.1
 refine c_seq (r_seq (by kernel_rfl) (s_val (v_eql (k := .i64) rfl rfl) (s_val (v_asB rfl) (s_nil (c_cond rfl rfl (fun h105 => ?_) (fun h105 => ?_))))))
 · have k2 := h105
   refine c_skip (n_then (c_condTh rfl rfl h105 (c_seq (r_seq (by kernel_rfl) (s_val (v_mvB rfl) (s_val (v_not rfl) (s_nil (c_condN rfl rfl (fun h109 => ?_) (fun h109 => ?_)))))))))
   · have hset := waits_none h109
     refine r_seq (by kernel_rfl) (s_val (v_move (v := .func _ _ _) rfl) (s_callC (k := 32) (caps := [.pointer (some ⟨b2, 0, none⟩)]) rfl (by kernel_rfl) (fun w hw => gr_no h b2 4 w (fun j v hv => by rw [Nat.zero_add]; exact (cell_has hw (.there (.there (.app (.there (.there (.there .here))))))).trans hv)) (s_val (v_extract rfl rfl) (s_val (v_extract rfl rfl) (s_storeA (m := 42) (by kernel_rfl) rfl rfl (.there (.there (.app (.there .here)))) (H.size _) (H.size _) (H.all1 _) (s_storeA (m := 3) (by kernel_rfl) rfl rfl (.there (.there (.app .here))) rfl rfl rep_all (s_nil (c_ret (n_ret (n_bret (n_ret (n_done2CF (m := 42) (m' := 3) rfl (by decide) (by decide) rfl rfl (by kernel_rfl) (by kernel_rfl) (.there (.there (.app (.there .here)))) (.there (.there (.app .here))) (H.size _) rep_size (fun w hw => ?_)))))))))))))
     exact nextF_err (by simp only [nextM, h18, h58, h109, hgc, k2, hset, cond_true, cond_false, Bool.not_true, Bool.not_false, Bool.or_true, Bool.true_or, Bool.or_false, Bool.false_or]) hlc
   obtain ⟨p, hset⟩ := waits_some h109
   obtain ⟨hn0, hpn, hps⟩ := settles_spec hset
   have hlt : a.a.toNat < h.pl := by have := (List.getElem?_eq_some_iff.1 hpn).1; have := hp.1; omega
   obtain ⟨b24, t24, cs24, rfl, rfl, hsz24, hcs24⟩ := hpe24.some (by omega)
   have hle24 := hpe24.2.1
   refine c_skip (n_then (c_seq (r_seq (by kernel_rfl) (s_val (v_fd 0 (by kernel_rfl) rfl) (s_val (v_ldI (by kernel_rfl) rfl (.there (.there (.there (.there (.there .here))))) rfl) (s_val (v_eql (k := .i64) rfl rfl) (s_nil (c_condTh rfl rfl k2 (r_seq (by kernel_rfl) (s_val (v_fd 40 (by kernel_rfl) rfl) (s_val (v_load1 (v := .slice _ _ _) (by kernel_rfl) rfl (.there .here) (H.at_pays _)) (s_val (v_fd 1 (by kernel_rfl) rfl) (s_val (v_ldI (by kernel_rfl) rfl (.there (.there (.there (.there (.there .here))))) rfl) (s_val (v_idxS (size := 6) (k := .i64) (by kernel_rfl) rfl rfl ⟨by omega, by dsimp only; omega⟩) (s_val (v_fd 4 (by kernel_rfl) rfl) (s_store1 (v := .int .i64 _) (by kernel_rfl) rfl rfl (.there (.there .here)) ⟨by rw [hsz24]; omega, rfl⟩ rfl (s_nil (c_exit (n_exit ?_)))))))))))))))))))
   refine n_bhere (n_then (r_seq (by kernel_rfl) (s_val (v_loadA (m := 42) (by kernel_rfl) rfl (.there .here) (H.size _)) (s_callG (by kernel_rfl) (sweepF_mono _ _ _) (fun w hw => gr_SweepHouse _ (ps.set a.a.toNat { p with sta := 3 }) w (at_pays hw (.there (.there .here)) (by rw [List.length_set]; exact hp.1) (hcs24.sta hpn 3)) hb hle24) (fun F339 v339 hF339 hR339 => ?_)))))
   obtain ⟨hy, a341, c341, rfl, hcy, hlcy, hpy, hi341, hsl⟩ := sweepF_open hR339
   have hpsl : (ps.set a.a.toNat { p with sta := 3 }).length ≤ 25 := by rw [List.length_set]; have := hp.1; omega
   refine s_val (v_move (v := .tuple _) rfl) (s_val (v_extract rfl rfl) (s_val (v_extract rfl rfl) (s_alloc (z := .agg zeroH.cells) (by kernel_rfl) (fun b13 => ?_))))
   refine s_storeA (m := 42) (by kernel_rfl) rfl rfl .here (H.size _) (H.size _) (H.all1 _) (s_val (v_assign (v := .slice _ _ _) rfl) (s_nil ?_))
   
   refine r_seq (by kernel_rfl) (s_val (v_fd 2 (by kernel_rfl) rfl) (s_val (v_load1 (v := .slice _ _ _) (by kernel_rfl) rfl (.there .here) rfl) (s_val (v_move (v := .slice _ _ _) rfl) (s_pushAll (E := []) (n := 0) (xs := []) (e := 3) (by_ := 8) (by kernel_rfl) rfl rfl rfl rfl (listE_nil _ _) (hi341.mono (more_young _ _)) (bytes_ok (Nat.zero_le _) hsl hpsl) (fun v345 E345 hE345 => ?_)))))
   obtain ⟨a345, m345, c345, rfl⟩ := hE345.shape3
   refine s_val (v_fd 2 (by kernel_rfl) rfl) (s_store1 (v := .slice _ _ _) (by kernel_rfl) rfl rfl (.app (.there .here)) rep_setD rfl (s_nil ?_))
   apply f2_seq (j0 := 2) (j1 := 3) (Ψ := (rowV 347 (.agg hy.cells) (rowV 348 (.agg (repC 0 (0) (.slice a345 m345 c345))) AnyV))) (by kernel_rfl) (by kernel_rfl) (by kernel_rfl) (by kernel_rfl) (by kernel_rfl) rfl rfl
   · intro g hl
     have e4 : g 4 = .pointer (some ⟨b4, 0, none⟩) := (hl 4 (dK (by kernel_rfl))).2 (dK (by kernel_rfl))
     have e347 : g 347 = .agg hy.cells := (hl 347 (dK (by kernel_rfl))).1 (dK (by kernel_rfl))
     refine ⟨rfl, ?_⟩
     refine s_storeA (m := 42) (by kernel_rfl) e4 e347 (.app (.there (.there (.there (.there (.there .here)))))) (H.size _) (H.size _) (H.all1 _) ?_
     exact ow_end
   · intro g hl
     have e5 : g 5 = .pointer (some ⟨b5, 0, none⟩) := (hl 5 (dK (by kernel_rfl))).2 (dK (by kernel_rfl))
     have e348 : g 348 = .agg (repC 0 (0) (.slice a345 m345 c345)) := (hl 348 (dK (by kernel_rfl))).1 (dK (by kernel_rfl))
     refine ⟨rfl, ?_⟩
     refine s_storeA (m := 3) (by kernel_rfl) e5 e348 (.app (.there (.there (.there (.there .here))))) rfl rfl rep_all ?_
     exact ow_end
   · refine ⟨?_, ?_, trivial⟩
     · refine obw_val (v := .agg hy.cells) (fun g hl => ?_)
       have e13 : g 13 = .pointer (some ⟨b13, 0, none⟩) := (hl 13 (dK (by kernel_rfl))).2 (dK (by kernel_rfl))
       exact ⟨v_loadA (m := 42) (by kernel_rfl) e13 (.app .here) (H.size _), rfl⟩
     · refine obw_val (v := .agg (repC 0 (0) (.slice a345 m345 c345))) (fun g hl => ?_)
       have e8 : g 8 = .pointer (some ⟨b8, 0, none⟩) := (hl 8 (dK (by kernel_rfl))).2 (dK (by kernel_rfl))
       exact ⟨v_loadA (m := 3) (by kernel_rfl) e8 (.app (.there .here)) rfl, rfl⟩
   · refine ⟨?_, ?_, trivial⟩
     · refine obw_val (v := .agg hy.cells) (fun g hl => ?_)
       have e13 : g 13 = .pointer (some ⟨b13, 0, none⟩) := (hl 13 (dK (by kernel_rfl))).2 (dK (by kernel_rfl))
       exact ⟨v_loadA (m := 42) (by kernel_rfl) e13 (.app .here) (H.size _), rfl⟩
     · refine obw_val (v := .agg (repC 0 (0) (.slice a345 m345 c345))) (fun g hl => ?_)
       have e8 : g 8 = .pointer (some ⟨b8, 0, none⟩) := (hl 8 (dK (by kernel_rfl))).2 (dK (by kernel_rfl))
       exact ⟨v_loadA (m := 3) (by kernel_rfl) e8 (.app (.there .here)) rfl, rfl⟩
   · refine ⟨?_, ?_, trivial⟩
     · refine obw_val (v := .agg hy.cells) (fun g hl => ?_)
       have e13 : g 13 = .pointer (some ⟨b13, 0, none⟩) := (hl 13 (dK (by kernel_rfl))).2 (dK (by kernel_rfl))
       exact ⟨v_loadA (m := 42) (by kernel_rfl) e13 (.app .here) (H.size _), rfl⟩
     · refine obw_val (v := .agg (repC 0 (0) (.slice a345 m345 c345))) (fun g hl => ?_)
       have e8 : g 8 = .pointer (some ⟨b8, 0, none⟩) := (hl 8 (dK (by kernel_rfl))).2 (dK (by kernel_rfl))
       exact ⟨v_loadA (m := 3) (by kernel_rfl) e8 (.app (.there .here)) rfl, rfl⟩
   intro g hd he
   have e4 : g 4 = .pointer (some ⟨b4, 0, none⟩) := he 4 (dK (by kernel_rfl))
   have e5 : g 5 = .pointer (some ⟨b5, 0, none⟩) := he 5 (dK (by kernel_rfl))
   obtain ⟨g1, hg1⟩ : ∃ g1, g = (upd (upd g1 4 (.pointer (some ⟨b4, 0, none⟩))) 5 (.pointer (some ⟨b5, 0, none⟩))) := ⟨g, live2 e4 e5⟩
   rw [hg1]
   refine c_ret (n_done2CF (m := 42) (m' := 3) rfl (by decide) (by decide) rfl rfl (by kernel_rfl) (by kernel_rfl) (.app (.there (.there (.there (.there (.there .here)))))) (.app (.there (.there (.there (.there .here))))) (H.size _) rep_size (fun w hw => ?_))
   refine nextF_sweep (psx := (ps.set a.a.toNat { p with sta := 3 })) (d := []) (E := E345) ?_ hcy hlcy (own_pays hw (.app (.there (.there (.there .here)))) (by rw [List.length_set]; exact hp.1) (hcs24.sta hpn 3)) (hpy.imp id fun q => q.mono (young_fresh hw)) hE345 (own_known hw (fun _ hq => (List.mem_append_left _ hq)))
   simp only [nextM, h18, h58, h109, k2, hgc, hset, cond_true, cond_false, Bool.not_true, Bool.not_false, Bool.or_true, Bool.true_or, Bool.or_false, Bool.false_or]
   rfl
 have k2 := h105
 refine r_list (by kernel_rfl) (s_val (v_eql (k := .i64) rfl rfl) (s_val (v_asB rfl) (s_end (n_then (c_cond rfl rfl (fun h105 => ?_) (fun h105 => ?_))))))
 · have k3 := h105
   refine c_seq (r_seq (by kernel_rfl) (s_val (v_mvB rfl) (s_val (v_not rfl) (s_nil (c_condN rfl rfl (fun h109 => ?_) (fun h109 => ?_))))))
   · have hset := waits_none h109
     refine r_seq (by kernel_rfl) (s_val (v_move (v := .func _ _ _) rfl) (s_callC (k := 32) (caps := [.pointer (some ⟨b2, 0, none⟩)]) rfl (by kernel_rfl) (fun w hw => gr_no h b2 4 w (fun j v hv => by rw [Nat.zero_add]; exact (cell_has hw (.there (.there (.app (.there (.there (.there .here))))))).trans hv)) (s_val (v_extract rfl rfl) (s_val (v_extract rfl rfl) (s_storeA (m := 42) (by kernel_rfl) rfl rfl (.there (.there (.app (.there .here)))) (H.size _) (H.size _) (H.all1 _) (s_storeA (m := 3) (by kernel_rfl) rfl rfl (.there (.there (.app .here))) rfl rfl rep_all (s_nil (c_ret (n_ret (n_bret (n_ret (n_done2CF (m := 42) (m' := 3) rfl (by decide) (by decide) rfl rfl (by kernel_rfl) (by kernel_rfl) (.there (.there (.app (.there .here)))) (.there (.there (.app .here))) (H.size _) rep_size (fun w hw => ?_)))))))))))))
     exact nextF_err (by simp only [nextM, h18, h58, h109, hgc, k2, k3, hset, cond_true, cond_false, Bool.not_true, Bool.not_false, Bool.or_true, Bool.true_or, Bool.or_false, Bool.false_or]) hlc
   obtain ⟨p, hset⟩ := waits_some h109
   obtain ⟨hn0, hpn, hps⟩ := settles_spec hset
   have hlt : a.a.toNat < h.pl := by have := (List.getElem?_eq_some_iff.1 hpn).1; have := hp.1; omega
   obtain ⟨b24, t24, cs24, rfl, rfl, hsz24, hcs24⟩ := hpe24.some (by omega)
   have hle24 := hpe24.2.1
   refine c_skip (n_then (c_seq (r_seq (by kernel_rfl) (s_val (v_fd 0 (by kernel_rfl) rfl) (s_val (v_ldI (by kernel_rfl) rfl (.there (.there (.there (.there (.there .here))))) rfl) (s_val (v_eql (k := .i64) rfl rfl) (s_nil (c_condFh rfl rfl k2 (c_skip (n_then (c_seq (r_seq (by kernel_rfl) (s_val (v_fd 3 (by kernel_rfl) rfl) (s_val (v_ldI (by kernel_rfl) rfl (.there (.there (.there (.there (.there .here))))) rfl) (s_call (by kernel_rfl) (fun w hw => gr_within _ _ _ w) (s_val (v_not rfl) (s_nil (c_condN rfl rfl (fun h126 => ?_) (fun h126 => ?_)))))))))))))))))))
   · refine r_seq (by kernel_rfl) (s_val (v_move (v := .func _ _ _) rfl) (s_callC (k := 32) (caps := [.pointer (some ⟨b2, 0, none⟩)]) rfl (by kernel_rfl) (fun w hw => gr_no h b2 3 w (fun j v hv => by rw [Nat.zero_add]; exact (cell_has hw (.there (.there (.there (.there (.there (.there .here))))))).trans hv)) (s_val (v_extract rfl rfl) (s_val (v_extract rfl rfl) (s_storeA (m := 42) (by kernel_rfl) rfl rfl (.there (.there (.there (.there .here)))) (H.size _) (H.size _) (H.all1 _) (s_storeA (m := 3) (by kernel_rfl) rfl rfl (.there (.there (.there .here))) rfl rfl rep_all (s_nil (c_ret (n_ret (n_bret (n_ret (n_done2CF (m := 42) (m' := 3) rfl (by decide) (by decide) rfl rfl (by kernel_rfl) (by kernel_rfl) (.there (.there (.there (.there .here)))) (.there (.there (.there .here))) (H.size _) rep_size (fun w hw => ?_)))))))))))))
     exact nextF_err (by simp only [nextM, h18, h58, h109, k2, h126, hgc, k3, hset, cond_true, cond_false, Bool.not_true, Bool.not_false, Bool.or_true, Bool.true_or, Bool.or_false, Bool.false_or]) hlc
   refine c_skip (n_then (c_seq (r_seq (by kernel_rfl) (s_val (v_fd 41 (by kernel_rfl) rfl) (s_val (v_ldI (by kernel_rfl) rfl (.there (.there (.there (.there (.there (.there .here)))))) (H.at_next _)) (s_val (v_eql (k := .i64) rfl rfl) (s_nil (c_cond rfl rfl (fun h133 => ?_) (fun h133 => ?_)))))))))
   · have q3 : decide (h.core.next = 1048576) = true := h133
     refine r_seq (by kernel_rfl) (s_val (v_move (v := .func _ _ _) rfl) (s_callC (k := 32) (caps := [.pointer (some ⟨b2, 0, none⟩)]) rfl (by kernel_rfl) (fun w hw => gr_no h b2 5 w (fun j v hv => by rw [Nat.zero_add]; exact (cell_has hw (.there (.there (.there (.there (.there (.there .here))))))).trans hv)) (s_val (v_extract rfl rfl) (s_val (v_extract rfl rfl) (s_storeA (m := 42) (by kernel_rfl) rfl rfl (.there (.there (.there (.there .here)))) (H.size _) (H.size _) (H.all1 _) (s_storeA (m := 3) (by kernel_rfl) rfl rfl (.there (.there (.there .here))) rfl rfl rep_all (s_nil (c_ret (n_ret (n_bret (n_ret (n_done2CF (m := 42) (m' := 3) rfl (by decide) (by decide) rfl rfl (by kernel_rfl) (by kernel_rfl) (.there (.there (.there (.there .here)))) (.there (.there (.there .here))) (H.size _) rep_size (fun w hw => ?_)))))))))))))
     exact nextF_err (by simp only [nextM, h18, h58, h109, k2, h126, h133, hgc, k3, hset, q3, cond_true, cond_false, Bool.not_true, Bool.not_false, Bool.or_true, Bool.true_or, Bool.or_false, Bool.false_or]) hlc
   have q3 : decide (h.core.next = 1048576) = false := h133
   have hn3 := of_decide_eq_false h133
   refine c_skip (n_then ?_)
   apply f2_seq (j0 := 14) (j1 := 17) (Ψ := (rowV 138 (.pointer (some ⟨b7, 0 + 40, none⟩)) (rowV 139 (.slice (some ⟨b24, 0, none⟩) h.pl pc24) (rowV 140 (.pointer (some ⟨b3, 0 + 1, none⟩)) (rowV 141 (I a.a) (rowV 142 (.pointer (some ⟨b7, 0 + 40, none⟩)) (rowV 143 (.slice (some ⟨b24, 0, none⟩) h.pl pc24) (rowV 144 (.pointer (some ⟨b3, 0 + 1, none⟩)) (rowV 145 (I a.a) (rowV 146 (.pointer (some ⟨b3, 0 + 3, none⟩)) (rowV 147 (I a.c) (rowV 148 (.pointer (some ⟨b2, 0 + 41, none⟩)) (rowV 149 (I h.next) (rowV 150 (.pointer (some ⟨b24, 0 + a.a.toNat * 6, none⟩)) (rowV 151 (.pointer (some ⟨b24, 0 + a.a.toNat * 6 + 3, none⟩)) (rowV 152 (.pointer (some ⟨b24, 0 + a.a.toNat * 6, none⟩)) (rowV 153 (.pointer (some ⟨b24, 0 + a.a.toNat * 6 + 5, none⟩)) AnyV))))))))))))))))) (by kernel_rfl) (by kernel_rfl) (by kernel_rfl) (by kernel_rfl) (by kernel_rfl) rfl rfl
   · intro g hl
     have e151 : g 151 = .pointer (some ⟨b24, 0 + a.a.toNat * 6 + 3, none⟩) := (hl 151 (dK (by kernel_rfl))).1 (dK (by kernel_rfl))
     have e147 : g 147 = I a.c := (hl 147 (dK (by kernel_rfl))).1 (dK (by kernel_rfl))
     refine ⟨rfl, ?_⟩
     refine s_store1 (v := I a.c) (by kernel_rfl) e151 e147 (.there (.there .here)) ⟨by rw [hsz24]; omega, rfl⟩ rfl ?_
     exact ow_end
   · intro g hl
     have e153 : g 153 = .pointer (some ⟨b24, 0 + a.a.toNat * 6 + 5, none⟩) := (hl 153 (dK (by kernel_rfl))).1 (dK (by kernel_rfl))
     have e149 : g 149 = I h.next := (hl 149 (dK (by kernel_rfl))).1 (dK (by kernel_rfl))
     refine ⟨rfl, ?_⟩
     refine s_store1 (v := I h.next) (by kernel_rfl) e153 e149 (.there (.there .here)) ⟨by rw [Array.size_setIfInBounds, hsz24]; omega, rfl⟩ rfl ?_
     exact ow_end
   · refine ⟨?_, ?_, ?_, ?_, ?_, ?_, ?_, ?_, ?_, ?_, ?_, ?_, ?_, ?_, ?_, ?_, trivial⟩
     · refine obw_val (v := .pointer (some ⟨b7, 0 + 40, none⟩)) (fun g hl => ?_)
       have e7 : g 7 = .pointer (some ⟨b7, 0, none⟩) := (hl 7 (dK (by kernel_rfl))).2 (dK (by kernel_rfl))
       exact ⟨v_fd 40 (by kernel_rfl) e7, rfl⟩
     · refine obw_val (v := .slice (some ⟨b24, 0, none⟩) h.pl pc24) (fun g hl => ?_)
       have e138 : g 138 = .pointer (some ⟨b7, 0 + 40, none⟩) := (hl 138 (dK (by kernel_rfl))).1 (dK (by kernel_rfl))
       exact ⟨v_load1 (v := .slice _ _ _) (by kernel_rfl) e138 (.there .here) (H.at_pays _), rfl⟩
     · refine obw_val (v := .pointer (some ⟨b3, 0 + 1, none⟩)) (fun g hl => ?_)
       have e3 : g 3 = .pointer (some ⟨b3, 0, none⟩) := (hl 3 (dK (by kernel_rfl))).2 (dK (by kernel_rfl))
       exact ⟨v_fd 1 (by kernel_rfl) e3, rfl⟩
     · refine obw_val (v := I a.a) (fun g hl => ?_)
       have e140 : g 140 = .pointer (some ⟨b3, 0 + 1, none⟩) := (hl 140 (dK (by kernel_rfl))).1 (dK (by kernel_rfl))
       exact ⟨v_ldI (by kernel_rfl) e140 (.there (.there (.there (.there (.there .here))))) rfl, rfl⟩
     · refine obw_val (v := .pointer (some ⟨b7, 0 + 40, none⟩)) (fun g hl => ?_)
       have e7 : g 7 = .pointer (some ⟨b7, 0, none⟩) := (hl 7 (dK (by kernel_rfl))).2 (dK (by kernel_rfl))
       exact ⟨v_fd 40 (by kernel_rfl) e7, rfl⟩
     · refine obw_val (v := .slice (some ⟨b24, 0, none⟩) h.pl pc24) (fun g hl => ?_)
       have e142 : g 142 = .pointer (some ⟨b7, 0 + 40, none⟩) := (hl 142 (dK (by kernel_rfl))).1 (dK (by kernel_rfl))
       exact ⟨v_load1 (v := .slice _ _ _) (by kernel_rfl) e142 (.there .here) (H.at_pays _), rfl⟩
     · refine obw_val (v := .pointer (some ⟨b3, 0 + 1, none⟩)) (fun g hl => ?_)
       have e3 : g 3 = .pointer (some ⟨b3, 0, none⟩) := (hl 3 (dK (by kernel_rfl))).2 (dK (by kernel_rfl))
       exact ⟨v_fd 1 (by kernel_rfl) e3, rfl⟩
     · refine obw_val (v := I a.a) (fun g hl => ?_)
       have e144 : g 144 = .pointer (some ⟨b3, 0 + 1, none⟩) := (hl 144 (dK (by kernel_rfl))).1 (dK (by kernel_rfl))
       exact ⟨v_ldI (by kernel_rfl) e144 (.there (.there (.there (.there (.there .here))))) rfl, rfl⟩
     · refine obw_val (v := .pointer (some ⟨b3, 0 + 3, none⟩)) (fun g hl => ?_)
       have e3 : g 3 = .pointer (some ⟨b3, 0, none⟩) := (hl 3 (dK (by kernel_rfl))).2 (dK (by kernel_rfl))
       exact ⟨v_fd 3 (by kernel_rfl) e3, rfl⟩
     · refine obw_val (v := I a.c) (fun g hl => ?_)
       have e146 : g 146 = .pointer (some ⟨b3, 0 + 3, none⟩) := (hl 146 (dK (by kernel_rfl))).1 (dK (by kernel_rfl))
       exact ⟨v_ldI (by kernel_rfl) e146 (.there (.there (.there (.there (.there .here))))) rfl, rfl⟩
     · refine obw_val (v := .pointer (some ⟨b2, 0 + 41, none⟩)) (fun g hl => ?_)
       have e2 : g 2 = .pointer (some ⟨b2, 0, none⟩) := (hl 2 (dK (by kernel_rfl))).2 (dK (by kernel_rfl))
       exact ⟨v_fd 41 (by kernel_rfl) e2, rfl⟩
     · refine obw_val (v := I h.next) (fun g hl => ?_)
       have e148 : g 148 = .pointer (some ⟨b2, 0 + 41, none⟩) := (hl 148 (dK (by kernel_rfl))).1 (dK (by kernel_rfl))
       exact ⟨v_ldI (by kernel_rfl) e148 (.there (.there (.there (.there (.there (.there .here)))))) (H.at_next _), rfl⟩
     · refine obw_val (v := .pointer (some ⟨b24, 0 + a.a.toNat * 6, none⟩)) (fun g hl => ?_)
       have e139 : g 139 = .slice (some ⟨b24, 0, none⟩) h.pl pc24 := (hl 139 (dK (by kernel_rfl))).1 (dK (by kernel_rfl))
       have e141 : g 141 = I a.a := (hl 141 (dK (by kernel_rfl))).1 (dK (by kernel_rfl))
       exact ⟨v_idxS (size := 6) (k := .i64) (by kernel_rfl) e139 e141 ⟨by omega, by omega⟩, rfl⟩
     · refine obw_val (v := .pointer (some ⟨b24, 0 + a.a.toNat * 6 + 3, none⟩)) (fun g hl => ?_)
       have e150 : g 150 = .pointer (some ⟨b24, 0 + a.a.toNat * 6, none⟩) := (hl 150 (dK (by kernel_rfl))).1 (dK (by kernel_rfl))
       exact ⟨v_fd 3 (by kernel_rfl) e150, rfl⟩
     · refine obw_val (v := .pointer (some ⟨b24, 0 + a.a.toNat * 6, none⟩)) (fun g hl => ?_)
       have e143 : g 143 = .slice (some ⟨b24, 0, none⟩) h.pl pc24 := (hl 143 (dK (by kernel_rfl))).1 (dK (by kernel_rfl))
       have e145 : g 145 = I a.a := (hl 145 (dK (by kernel_rfl))).1 (dK (by kernel_rfl))
       exact ⟨v_idxS (size := 6) (k := .i64) (by kernel_rfl) e143 e145 ⟨by omega, by omega⟩, rfl⟩
     · refine obw_val (v := .pointer (some ⟨b24, 0 + a.a.toNat * 6 + 5, none⟩)) (fun g hl => ?_)
       have e152 : g 152 = .pointer (some ⟨b24, 0 + a.a.toNat * 6, none⟩) := (hl 152 (dK (by kernel_rfl))).1 (dK (by kernel_rfl))
       exact ⟨v_fd 5 (by kernel_rfl) e152, rfl⟩
   · refine ⟨?_, ?_, ?_, ?_, ?_, ?_, ?_, ?_, ?_, ?_, ?_, ?_, ?_, ?_, ?_, ?_, trivial⟩
     · refine obw_val (v := .pointer (some ⟨b7, 0 + 40, none⟩)) (fun g hl => ?_)
       have e7 : g 7 = .pointer (some ⟨b7, 0, none⟩) := (hl 7 (dK (by kernel_rfl))).2 (dK (by kernel_rfl))
       exact ⟨v_fd 40 (by kernel_rfl) e7, rfl⟩
     · refine obw_val (v := .slice (some ⟨b24, 0, none⟩) h.pl pc24) (fun g hl => ?_)
       have e138 : g 138 = .pointer (some ⟨b7, 0 + 40, none⟩) := (hl 138 (dK (by kernel_rfl))).1 (dK (by kernel_rfl))
       exact ⟨v_load1 (v := .slice _ _ _) (by kernel_rfl) e138 (.there .here) (H.at_pays _), rfl⟩
     · refine obw_val (v := .pointer (some ⟨b3, 0 + 1, none⟩)) (fun g hl => ?_)
       have e3 : g 3 = .pointer (some ⟨b3, 0, none⟩) := (hl 3 (dK (by kernel_rfl))).2 (dK (by kernel_rfl))
       exact ⟨v_fd 1 (by kernel_rfl) e3, rfl⟩
     · refine obw_val (v := I a.a) (fun g hl => ?_)
       have e140 : g 140 = .pointer (some ⟨b3, 0 + 1, none⟩) := (hl 140 (dK (by kernel_rfl))).1 (dK (by kernel_rfl))
       exact ⟨v_ldI (by kernel_rfl) e140 (.there (.there (.there (.there (.there .here))))) rfl, rfl⟩
     · refine obw_val (v := .pointer (some ⟨b7, 0 + 40, none⟩)) (fun g hl => ?_)
       have e7 : g 7 = .pointer (some ⟨b7, 0, none⟩) := (hl 7 (dK (by kernel_rfl))).2 (dK (by kernel_rfl))
       exact ⟨v_fd 40 (by kernel_rfl) e7, rfl⟩
     · refine obw_val (v := .slice (some ⟨b24, 0, none⟩) h.pl pc24) (fun g hl => ?_)
       have e142 : g 142 = .pointer (some ⟨b7, 0 + 40, none⟩) := (hl 142 (dK (by kernel_rfl))).1 (dK (by kernel_rfl))
       exact ⟨v_load1 (v := .slice _ _ _) (by kernel_rfl) e142 (.there .here) (H.at_pays _), rfl⟩
     · refine obw_val (v := .pointer (some ⟨b3, 0 + 1, none⟩)) (fun g hl => ?_)
       have e3 : g 3 = .pointer (some ⟨b3, 0, none⟩) := (hl 3 (dK (by kernel_rfl))).2 (dK (by kernel_rfl))
       exact ⟨v_fd 1 (by kernel_rfl) e3, rfl⟩
     · refine obw_val (v := I a.a) (fun g hl => ?_)
       have e144 : g 144 = .pointer (some ⟨b3, 0 + 1, none⟩) := (hl 144 (dK (by kernel_rfl))).1 (dK (by kernel_rfl))
       exact ⟨v_ldI (by kernel_rfl) e144 (.there (.there (.there (.there (.there .here))))) rfl, rfl⟩
     · refine obw_val (v := .pointer (some ⟨b3, 0 + 3, none⟩)) (fun g hl => ?_)
       have e3 : g 3 = .pointer (some ⟨b3, 0, none⟩) := (hl 3 (dK (by kernel_rfl))).2 (dK (by kernel_rfl))
       exact ⟨v_fd 3 (by kernel_rfl) e3, rfl⟩
     · refine obw_val (v := I a.c) (fun g hl => ?_)
       have e146 : g 146 = .pointer (some ⟨b3, 0 + 3, none⟩) := (hl 146 (dK (by kernel_rfl))).1 (dK (by kernel_rfl))
       exact ⟨v_ldI (by kernel_rfl) e146 (.there (.there (.there (.there (.there .here))))) rfl, rfl⟩
     · refine obw_val (v := .pointer (some ⟨b2, 0 + 41, none⟩)) (fun g hl => ?_)
       have e2 : g 2 = .pointer (some ⟨b2, 0, none⟩) := (hl 2 (dK (by kernel_rfl))).2 (dK (by kernel_rfl))
       exact ⟨v_fd 41 (by kernel_rfl) e2, rfl⟩
     · refine obw_val (v := I h.next) (fun g hl => ?_)
       have e148 : g 148 = .pointer (some ⟨b2, 0 + 41, none⟩) := (hl 148 (dK (by kernel_rfl))).1 (dK (by kernel_rfl))
       exact ⟨v_ldI (by kernel_rfl) e148 (.there (.there (.there (.there (.there (.there .here)))))) (H.at_next _), rfl⟩
     · refine obw_val (v := .pointer (some ⟨b24, 0 + a.a.toNat * 6, none⟩)) (fun g hl => ?_)
       have e139 : g 139 = .slice (some ⟨b24, 0, none⟩) h.pl pc24 := (hl 139 (dK (by kernel_rfl))).1 (dK (by kernel_rfl))
       have e141 : g 141 = I a.a := (hl 141 (dK (by kernel_rfl))).1 (dK (by kernel_rfl))
       exact ⟨v_idxS (size := 6) (k := .i64) (by kernel_rfl) e139 e141 ⟨by omega, by omega⟩, rfl⟩
     · refine obw_val (v := .pointer (some ⟨b24, 0 + a.a.toNat * 6 + 3, none⟩)) (fun g hl => ?_)
       have e150 : g 150 = .pointer (some ⟨b24, 0 + a.a.toNat * 6, none⟩) := (hl 150 (dK (by kernel_rfl))).1 (dK (by kernel_rfl))
       exact ⟨v_fd 3 (by kernel_rfl) e150, rfl⟩
     · refine obw_val (v := .pointer (some ⟨b24, 0 + a.a.toNat * 6, none⟩)) (fun g hl => ?_)
       have e143 : g 143 = .slice (some ⟨b24, 0, none⟩) h.pl pc24 := (hl 143 (dK (by kernel_rfl))).1 (dK (by kernel_rfl))
       have e145 : g 145 = I a.a := (hl 145 (dK (by kernel_rfl))).1 (dK (by kernel_rfl))
       exact ⟨v_idxS (size := 6) (k := .i64) (by kernel_rfl) e143 e145 ⟨by omega, by omega⟩, rfl⟩
     · refine obw_val (v := .pointer (some ⟨b24, 0 + a.a.toNat * 6 + 5, none⟩)) (fun g hl => ?_)
       have e152 : g 152 = .pointer (some ⟨b24, 0 + a.a.toNat * 6, none⟩) := (hl 152 (dK (by kernel_rfl))).1 (dK (by kernel_rfl))
       exact ⟨v_fd 5 (by kernel_rfl) e152, rfl⟩
   · refine ⟨?_, ?_, ?_, ?_, ?_, ?_, ?_, ?_, ?_, ?_, ?_, ?_, ?_, ?_, ?_, ?_, trivial⟩
     · refine obw_val (v := .pointer (some ⟨b7, 0 + 40, none⟩)) (fun g hl => ?_)
       have e7 : g 7 = .pointer (some ⟨b7, 0, none⟩) := (hl 7 (dK (by kernel_rfl))).2 (dK (by kernel_rfl))
       exact ⟨v_fd 40 (by kernel_rfl) e7, rfl⟩
     · refine obw_val (v := .slice (some ⟨b24, 0, none⟩) h.pl pc24) (fun g hl => ?_)
       have e138 : g 138 = .pointer (some ⟨b7, 0 + 40, none⟩) := (hl 138 (dK (by kernel_rfl))).1 (dK (by kernel_rfl))
       exact ⟨v_load1 (v := .slice _ _ _) (by kernel_rfl) e138 (.there .here) (H.at_pays _), rfl⟩
     · refine obw_val (v := .pointer (some ⟨b3, 0 + 1, none⟩)) (fun g hl => ?_)
       have e3 : g 3 = .pointer (some ⟨b3, 0, none⟩) := (hl 3 (dK (by kernel_rfl))).2 (dK (by kernel_rfl))
       exact ⟨v_fd 1 (by kernel_rfl) e3, rfl⟩
     · refine obw_val (v := I a.a) (fun g hl => ?_)
       have e140 : g 140 = .pointer (some ⟨b3, 0 + 1, none⟩) := (hl 140 (dK (by kernel_rfl))).1 (dK (by kernel_rfl))
       exact ⟨v_ldI (by kernel_rfl) e140 (.there (.there (.there (.there (.there .here))))) rfl, rfl⟩
     · refine obw_val (v := .pointer (some ⟨b7, 0 + 40, none⟩)) (fun g hl => ?_)
       have e7 : g 7 = .pointer (some ⟨b7, 0, none⟩) := (hl 7 (dK (by kernel_rfl))).2 (dK (by kernel_rfl))
       exact ⟨v_fd 40 (by kernel_rfl) e7, rfl⟩
     · refine obw_val (v := .slice (some ⟨b24, 0, none⟩) h.pl pc24) (fun g hl => ?_)
       have e142 : g 142 = .pointer (some ⟨b7, 0 + 40, none⟩) := (hl 142 (dK (by kernel_rfl))).1 (dK (by kernel_rfl))
       exact ⟨v_load1 (v := .slice _ _ _) (by kernel_rfl) e142 (.there .here) (H.at_pays _), rfl⟩
     · refine obw_val (v := .pointer (some ⟨b3, 0 + 1, none⟩)) (fun g hl => ?_)
       have e3 : g 3 = .pointer (some ⟨b3, 0, none⟩) := (hl 3 (dK (by kernel_rfl))).2 (dK (by kernel_rfl))
       exact ⟨v_fd 1 (by kernel_rfl) e3, rfl⟩
     · refine obw_val (v := I a.a) (fun g hl => ?_)
       have e144 : g 144 = .pointer (some ⟨b3, 0 + 1, none⟩) := (hl 144 (dK (by kernel_rfl))).1 (dK (by kernel_rfl))
       exact ⟨v_ldI (by kernel_rfl) e144 (.there (.there (.there (.there (.there .here))))) rfl, rfl⟩
     · refine obw_val (v := .pointer (some ⟨b3, 0 + 3, none⟩)) (fun g hl => ?_)
       have e3 : g 3 = .pointer (some ⟨b3, 0, none⟩) := (hl 3 (dK (by kernel_rfl))).2 (dK (by kernel_rfl))
       exact ⟨v_fd 3 (by kernel_rfl) e3, rfl⟩
     · refine obw_val (v := I a.c) (fun g hl => ?_)
       have e146 : g 146 = .pointer (some ⟨b3, 0 + 3, none⟩) := (hl 146 (dK (by kernel_rfl))).1 (dK (by kernel_rfl))
       exact ⟨v_ldI (by kernel_rfl) e146 (.there (.there (.there (.there (.there .here))))) rfl, rfl⟩
     · refine obw_val (v := .pointer (some ⟨b2, 0 + 41, none⟩)) (fun g hl => ?_)
       have e2 : g 2 = .pointer (some ⟨b2, 0, none⟩) := (hl 2 (dK (by kernel_rfl))).2 (dK (by kernel_rfl))
       exact ⟨v_fd 41 (by kernel_rfl) e2, rfl⟩
     · refine obw_val (v := I h.next) (fun g hl => ?_)
       have e148 : g 148 = .pointer (some ⟨b2, 0 + 41, none⟩) := (hl 148 (dK (by kernel_rfl))).1 (dK (by kernel_rfl))
       exact ⟨v_ldI (by kernel_rfl) e148 (.there (.there (.there (.there (.there (.there .here)))))) (H.at_next _), rfl⟩
     · refine obw_val (v := .pointer (some ⟨b24, 0 + a.a.toNat * 6, none⟩)) (fun g hl => ?_)
       have e139 : g 139 = .slice (some ⟨b24, 0, none⟩) h.pl pc24 := (hl 139 (dK (by kernel_rfl))).1 (dK (by kernel_rfl))
       have e141 : g 141 = I a.a := (hl 141 (dK (by kernel_rfl))).1 (dK (by kernel_rfl))
       exact ⟨v_idxS (size := 6) (k := .i64) (by kernel_rfl) e139 e141 ⟨by omega, by omega⟩, rfl⟩
     · refine obw_val (v := .pointer (some ⟨b24, 0 + a.a.toNat * 6 + 3, none⟩)) (fun g hl => ?_)
       have e150 : g 150 = .pointer (some ⟨b24, 0 + a.a.toNat * 6, none⟩) := (hl 150 (dK (by kernel_rfl))).1 (dK (by kernel_rfl))
       exact ⟨v_fd 3 (by kernel_rfl) e150, rfl⟩
     · refine obw_val (v := .pointer (some ⟨b24, 0 + a.a.toNat * 6, none⟩)) (fun g hl => ?_)
       have e143 : g 143 = .slice (some ⟨b24, 0, none⟩) h.pl pc24 := (hl 143 (dK (by kernel_rfl))).1 (dK (by kernel_rfl))
       have e145 : g 145 = I a.a := (hl 145 (dK (by kernel_rfl))).1 (dK (by kernel_rfl))
       exact ⟨v_idxS (size := 6) (k := .i64) (by kernel_rfl) e143 e145 ⟨by omega, by omega⟩, rfl⟩
     · refine obw_val (v := .pointer (some ⟨b24, 0 + a.a.toNat * 6 + 5, none⟩)) (fun g hl => ?_)
       have e152 : g 152 = .pointer (some ⟨b24, 0 + a.a.toNat * 6, none⟩) := (hl 152 (dK (by kernel_rfl))).1 (dK (by kernel_rfl))
       exact ⟨v_fd 5 (by kernel_rfl) e152, rfl⟩
   intro g hd he
   have e2 : g 2 = .pointer (some ⟨b2, 0, none⟩) := he 2 (dK (by kernel_rfl))
   have e4 : g 4 = .pointer (some ⟨b4, 0, none⟩) := he 4 (dK (by kernel_rfl))
   have e5 : g 5 = .pointer (some ⟨b5, 0, none⟩) := he 5 (dK (by kernel_rfl))
   have e7 : g 7 = .pointer (some ⟨b7, 0, none⟩) := he 7 (dK (by kernel_rfl))
   have e8 : g 8 = .pointer (some ⟨b8, 0, none⟩) := he 8 (dK (by kernel_rfl))
   obtain ⟨g1, hg1⟩ : ∃ g1, g = (upd (upd (upd (upd (upd g1 2 (.pointer (some ⟨b2, 0, none⟩))) 4 (.pointer (some ⟨b4, 0, none⟩))) 5 (.pointer (some ⟨b5, 0, none⟩))) 7 (.pointer (some ⟨b7, 0, none⟩))) 8 (.pointer (some ⟨b8, 0, none⟩))) := ⟨g, live5 e2 e4 e5 e7 e8⟩
   rw [hg1]
   refine r_list (by kernel_rfl) (s_val (v_fd 41 (by kernel_rfl) rfl) (s_val (v_ldI (by kernel_rfl) rfl (.there .here) (H.at_next _)) (s_val (v_add rfl rfl (by (try dsimp only); omega)) (s_val (v_fd 41 (by kernel_rfl) rfl) (s_store1 (v := .int .i64 _) (by kernel_rfl) rfl rfl (.there .here) (H.set_next _) rfl (s_end (n_bnormal (n_then (r_seq (by kernel_rfl) (s_val (v_loadA (m := 42) (by kernel_rfl) rfl (.there .here) (H.size _)) (s_callG (by kernel_rfl) (sweepF_mono _ _ _) (fun w hw => gr_SweepHouse _ (ps.set a.a.toNat { p with cls := a.c, seq := h.core.next }) w (at_pays hw (.there (.there .here)) (by rw [List.length_set]; exact hp.1) (hcs24.clsseq hpn a.c h.next)) hb hle24) (fun F339 v339 hF339 hR339 => ?_))))))))))))
   obtain ⟨hy, a341, c341, rfl, hcy, hlcy, hpy, hi341, hsl⟩ := sweepF_open hR339
   have hpsl : (ps.set a.a.toNat { p with cls := a.c, seq := h.core.next }).length ≤ 25 := by rw [List.length_set]; have := hp.1; omega
   refine s_val (v_move (v := .tuple _) rfl) (s_val (v_extract rfl rfl) (s_val (v_extract rfl rfl) (s_alloc (z := .agg zeroH.cells) (by kernel_rfl) (fun b13 => ?_))))
   refine s_storeA (m := 42) (by kernel_rfl) rfl rfl .here (H.size _) (H.size _) (H.all1 _) (s_val (v_assign (v := .slice _ _ _) rfl) (s_nil ?_))
   
   refine r_seq (by kernel_rfl) (s_val (v_fd 2 (by kernel_rfl) rfl) (s_val (v_load1 (v := .slice _ _ _) (by kernel_rfl) rfl (.there .here) rfl) (s_val (v_move (v := .slice _ _ _) rfl) (s_pushAll (E := []) (n := 0) (xs := []) (e := 3) (by_ := 8) (by kernel_rfl) rfl rfl rfl rfl (listE_nil _ _) (hi341.mono (more_young _ _)) (bytes_ok (Nat.zero_le _) hsl hpsl) (fun v345 E345 hE345 => ?_)))))
   obtain ⟨a345, m345, c345, rfl⟩ := hE345.shape3
   refine s_val (v_fd 2 (by kernel_rfl) rfl) (s_store1 (v := .slice _ _ _) (by kernel_rfl) rfl rfl (.app (.there .here)) rep_setD rfl (s_nil ?_))
   apply f2_seq (j0 := 2) (j1 := 3) (Ψ := (rowV 347 (.agg hy.cells) (rowV 348 (.agg (repC 0 (0) (.slice a345 m345 c345))) AnyV))) (by kernel_rfl) (by kernel_rfl) (by kernel_rfl) (by kernel_rfl) (by kernel_rfl) rfl rfl
   · intro g hl
     have e4 : g 4 = .pointer (some ⟨b4, 0, none⟩) := (hl 4 (dK (by kernel_rfl))).2 (dK (by kernel_rfl))
     have e347 : g 347 = .agg hy.cells := (hl 347 (dK (by kernel_rfl))).1 (dK (by kernel_rfl))
     refine ⟨rfl, ?_⟩
     refine s_storeA (m := 42) (by kernel_rfl) e4 e347 (.app (.there (.there (.there (.there (.there .here)))))) (H.size _) (H.size _) (H.all1 _) ?_
     exact ow_end
   · intro g hl
     have e5 : g 5 = .pointer (some ⟨b5, 0, none⟩) := (hl 5 (dK (by kernel_rfl))).2 (dK (by kernel_rfl))
     have e348 : g 348 = .agg (repC 0 (0) (.slice a345 m345 c345)) := (hl 348 (dK (by kernel_rfl))).1 (dK (by kernel_rfl))
     refine ⟨rfl, ?_⟩
     refine s_storeA (m := 3) (by kernel_rfl) e5 e348 (.app (.there (.there (.there (.there .here))))) rfl rfl rep_all ?_
     exact ow_end
   · refine ⟨?_, ?_, trivial⟩
     · refine obw_val (v := .agg hy.cells) (fun g hl => ?_)
       have e13 : g 13 = .pointer (some ⟨b13, 0, none⟩) := (hl 13 (dK (by kernel_rfl))).2 (dK (by kernel_rfl))
       exact ⟨v_loadA (m := 42) (by kernel_rfl) e13 (.app .here) (H.size _), rfl⟩
     · refine obw_val (v := .agg (repC 0 (0) (.slice a345 m345 c345))) (fun g hl => ?_)
       have e8 : g 8 = .pointer (some ⟨b8, 0, none⟩) := (hl 8 (dK (by kernel_rfl))).2 (dK (by kernel_rfl))
       exact ⟨v_loadA (m := 3) (by kernel_rfl) e8 (.app (.there .here)) rfl, rfl⟩
   · refine ⟨?_, ?_, trivial⟩
     · refine obw_val (v := .agg hy.cells) (fun g hl => ?_)
       have e13 : g 13 = .pointer (some ⟨b13, 0, none⟩) := (hl 13 (dK (by kernel_rfl))).2 (dK (by kernel_rfl))
       exact ⟨v_loadA (m := 42) (by kernel_rfl) e13 (.app .here) (H.size _), rfl⟩
     · refine obw_val (v := .agg (repC 0 (0) (.slice a345 m345 c345))) (fun g hl => ?_)
       have e8 : g 8 = .pointer (some ⟨b8, 0, none⟩) := (hl 8 (dK (by kernel_rfl))).2 (dK (by kernel_rfl))
       exact ⟨v_loadA (m := 3) (by kernel_rfl) e8 (.app (.there .here)) rfl, rfl⟩
   · refine ⟨?_, ?_, trivial⟩
     · refine obw_val (v := .agg hy.cells) (fun g hl => ?_)
       have e13 : g 13 = .pointer (some ⟨b13, 0, none⟩) := (hl 13 (dK (by kernel_rfl))).2 (dK (by kernel_rfl))
       exact ⟨v_loadA (m := 42) (by kernel_rfl) e13 (.app .here) (H.size _), rfl⟩
     · refine obw_val (v := .agg (repC 0 (0) (.slice a345 m345 c345))) (fun g hl => ?_)
       have e8 : g 8 = .pointer (some ⟨b8, 0, none⟩) := (hl 8 (dK (by kernel_rfl))).2 (dK (by kernel_rfl))
       exact ⟨v_loadA (m := 3) (by kernel_rfl) e8 (.app (.there .here)) rfl, rfl⟩
   intro g hd he
   have e4 : g 4 = .pointer (some ⟨b4, 0, none⟩) := he 4 (dK (by kernel_rfl))
   have e5 : g 5 = .pointer (some ⟨b5, 0, none⟩) := he 5 (dK (by kernel_rfl))
   obtain ⟨g1, hg1⟩ : ∃ g1, g = (upd (upd g1 4 (.pointer (some ⟨b4, 0, none⟩))) 5 (.pointer (some ⟨b5, 0, none⟩))) := ⟨g, live2 e4 e5⟩
   rw [hg1]
   refine c_ret (n_done2CF (m := 42) (m' := 3) rfl (by decide) (by decide) rfl rfl (by kernel_rfl) (by kernel_rfl) (.app (.there (.there (.there (.there (.there .here)))))) (.app (.there (.there (.there (.there .here))))) (H.size _) rep_size (fun w hw => ?_))
   refine nextF_sweep (psx := (ps.set a.a.toNat { p with cls := a.c, seq := h.core.next })) (d := []) (E := E345) ?_ hcy hlcy (own_pays hw (.app (.there (.there (.there .here)))) (by rw [List.length_set]; exact hp.1) (hcs24.clsseq hpn a.c h.next)) (hpy.imp id fun q => q.mono (young_fresh hw)) hE345 (own_known hw (fun _ hq => (List.mem_append_left _ hq)))
   simp only [nextM, h18, h58, h109, k2, h126, h133, hgc, k3, hset, q3, cond_true, cond_false, Bool.not_true, Bool.not_false, Bool.or_true, Bool.true_or, Bool.or_false, Bool.false_or]
   rfl
 have k3 := h105
 refine r_seq (by kernel_rfl) (s_val (v_eql (k := .i64) rfl rfl) (s_val (v_asB rfl) (s_nil (c_cond rfl rfl (fun h158 => ?_) (fun h158 => ?_)))))
 · refine c_seq (r_seq (by kernel_rfl) (s_val (v_mvB rfl) (s_val (v_not rfl) (s_val (v_mvB rfl) (s_splitN (s := 162) rfl (fun h162 => ?_) (fun h162 => ?_))))))
   · refine s_pass rfl rfl (congrArg not h162) (s_pass rfl rfl (congrArg not h162) (s_pass rfl rfl (congrArg not h162) (s_pass rfl rfl (congrArg not h162) (s_val (v_pickT (v := .bool _) rfl (congrArg not h162) rfl) (s_nil (c_condTh rfl rfl rfl (r_seq (by kernel_rfl) (s_val (v_move (v := .func _ _ _) rfl) (s_callC (k := 32) (caps := [.pointer (some ⟨b2, 0, none⟩)]) rfl (by kernel_rfl) (fun w hw => gr_no h b2 3 w (fun j v hv => by rw [Nat.zero_add]; exact (cell_has hw (.there (.there (.app (.there (.there (.there .here))))))).trans hv)) (s_val (v_extract rfl rfl) (s_val (v_extract rfl rfl) (s_storeA (m := 42) (by kernel_rfl) rfl rfl (.there (.there (.app (.there .here)))) (H.size _) (H.size _) (H.all1 _) (s_storeA (m := 3) (by kernel_rfl) rfl rfl (.there (.there (.app .here))) rfl rfl rep_all (s_nil (c_ret (n_ret (n_bret (n_ret (n_done2CF (m := 42) (m' := 3) rfl (by decide) (by decide) rfl rfl (by kernel_rfl) (by kernel_rfl) (.there (.there (.app (.there .here)))) (.there (.there (.app .here))) (H.size _) rep_size (fun w hw => ?_))))))))))))))))))))
     exact nextF_err (by simp only [nextM, h18, h58, h158, h162, hgc, k2, k3, cond_true, cond_false, Bool.not_true, Bool.not_false, Bool.or_true, Bool.true_or, Bool.or_false, Bool.false_or]) hlc
   refine s_want rfl rfl (congrArg not h162) (s_val (v_fd 4 (by kernel_rfl) rfl) (s_want rfl rfl (congrArg not h162) (s_val (v_ldI (by kernel_rfl) rfl (.there (.there (.app (.there (.there .here))))) rfl) (s_want rfl rfl (congrArg not h162) (s_call (by kernel_rfl) (fun w hw => gr_within _ _ _ w) (s_want rfl rfl (congrArg not h162) (s_val (v_not rfl) (s_val (v_pickF (v := .bool _) rfl (congrArg not h162) rfl) (s_nil (c_condN rfl rfl (fun h167 => ?_) (fun h167 => ?_)))))))))))
   · refine r_seq (by kernel_rfl) (s_val (v_move (v := .func _ _ _) rfl) (s_callC (k := 32) (caps := [.pointer (some ⟨b2, 0, none⟩)]) rfl (by kernel_rfl) (fun w hw => gr_no h b2 3 w (fun j v hv => by rw [Nat.zero_add]; exact (cell_has hw (.there (.there (.app (.there (.there (.there .here))))))).trans hv)) (s_val (v_extract rfl rfl) (s_val (v_extract rfl rfl) (s_storeA (m := 42) (by kernel_rfl) rfl rfl (.there (.there (.app (.there .here)))) (H.size _) (H.size _) (H.all1 _) (s_storeA (m := 3) (by kernel_rfl) rfl rfl (.there (.there (.app .here))) rfl rfl rep_all (s_nil (c_ret (n_ret (n_bret (n_ret (n_done2CF (m := 42) (m' := 3) rfl (by decide) (by decide) rfl rfl (by kernel_rfl) (by kernel_rfl) (.there (.there (.app (.there .here)))) (.there (.there (.app .here))) (H.size _) rep_size (fun w hw => ?_)))))))))))))
     exact nextF_err (by simp only [nextM, h18, h58, h158, h162, h167, hgc, k2, k3, cond_true, cond_false, Bool.not_true, Bool.not_false, Bool.or_true, Bool.true_or, Bool.or_false, Bool.false_or]) hlc
   have hwa := within_iff.1 h162
   have hwn := within_iff.1 h167
   refine c_skip (n_then (r_list (by kernel_rfl) (s_val (v_fd 1 (by kernel_rfl) rfl) (s_val (v_ldI (by kernel_rfl) rfl (.there (.there (.app (.there (.there .here))))) rfl) (s_val (v_fd 4 (by kernel_rfl) rfl) (s_val (v_ldI (by kernel_rfl) rfl (.there (.there (.app (.there (.there .here))))) rfl) (s_val (v_fd 0 (by kernel_rfl) rfl) (s_val (v_ixA 2 (by kernel_rfl) rfl rfl (by omega)) (s_val (v_fd 1 (by kernel_rfl) rfl) (s_store1 (v := .int .i64 _) (by kernel_rfl) rfl rfl (.there .here) (H.set_cred _ (by omega)) rfl (s_end (n_bnormal (n_then (r_seq (by kernel_rfl) (s_val (v_loadA (m := 42) (by kernel_rfl) rfl (.there .here) (H.size _)) (s_callG (by kernel_rfl) (sweepF_mono _ _ _) (fun w hw => gr_SweepHouse _ ps w (hpe24.known (at_known hw (fun _ hq => (List.mem_cons_of_mem _ (List.mem_cons_of_mem _ (List.mem_append_left _ hq)))))) hb hpe24.2.1) (fun F339 v339 hF339 hR339 => ?_)))))))))))))))))
   obtain ⟨hy, a341, c341, rfl, hcy, hlcy, hpy, hi341, hsl⟩ := sweepF_open hR339
   have hpsl : ps.length ≤ 25 := by have := hp.1; omega
   refine s_val (v_move (v := .tuple _) rfl) (s_val (v_extract rfl rfl) (s_val (v_extract rfl rfl) (s_alloc (z := .agg zeroH.cells) (by kernel_rfl) (fun b13 => ?_))))
   refine s_storeA (m := 42) (by kernel_rfl) rfl rfl .here (H.size _) (H.size _) (H.all1 _) (s_val (v_assign (v := .slice _ _ _) rfl) (s_nil ?_))
   
   refine r_seq (by kernel_rfl) (s_val (v_fd 2 (by kernel_rfl) rfl) (s_val (v_load1 (v := .slice _ _ _) (by kernel_rfl) rfl (.there .here) rfl) (s_val (v_move (v := .slice _ _ _) rfl) (s_pushAll (E := []) (n := 0) (xs := []) (e := 3) (by_ := 8) (by kernel_rfl) rfl rfl rfl rfl (listE_nil _ _) (hi341.mono (more_young _ _)) (bytes_ok (Nat.zero_le _) hsl hpsl) (fun v345 E345 hE345 => ?_)))))
   obtain ⟨a345, m345, c345, rfl⟩ := hE345.shape3
   refine s_val (v_fd 2 (by kernel_rfl) rfl) (s_store1 (v := .slice _ _ _) (by kernel_rfl) rfl rfl (.app (.there .here)) rep_setD rfl (s_nil ?_))
   apply f2_seq (j0 := 2) (j1 := 3) (Ψ := (rowV 347 (.agg hy.cells) (rowV 348 (.agg (repC 0 (0) (.slice a345 m345 c345))) AnyV))) (by kernel_rfl) (by kernel_rfl) (by kernel_rfl) (by kernel_rfl) (by kernel_rfl) rfl rfl
   · intro g hl
     have e4 : g 4 = .pointer (some ⟨b4, 0, none⟩) := (hl 4 (dK (by kernel_rfl))).2 (dK (by kernel_rfl))
     have e347 : g 347 = .agg hy.cells := (hl 347 (dK (by kernel_rfl))).1 (dK (by kernel_rfl))
     refine ⟨rfl, ?_⟩
     refine s_storeA (m := 42) (by kernel_rfl) e4 e347 (.app (.there (.there (.there (.app (.there .here)))))) (H.size _) (H.size _) (H.all1 _) ?_
     exact ow_end
   · intro g hl
     have e5 : g 5 = .pointer (some ⟨b5, 0, none⟩) := (hl 5 (dK (by kernel_rfl))).2 (dK (by kernel_rfl))
     have e348 : g 348 = .agg (repC 0 (0) (.slice a345 m345 c345)) := (hl 348 (dK (by kernel_rfl))).1 (dK (by kernel_rfl))
     refine ⟨rfl, ?_⟩
     refine s_storeA (m := 3) (by kernel_rfl) e5 e348 (.app (.there (.there (.there (.app .here))))) rfl rfl rep_all ?_
     exact ow_end
   · refine ⟨?_, ?_, trivial⟩
     · refine obw_val (v := .agg hy.cells) (fun g hl => ?_)
       have e13 : g 13 = .pointer (some ⟨b13, 0, none⟩) := (hl 13 (dK (by kernel_rfl))).2 (dK (by kernel_rfl))
       exact ⟨v_loadA (m := 42) (by kernel_rfl) e13 (.app .here) (H.size _), rfl⟩
     · refine obw_val (v := .agg (repC 0 (0) (.slice a345 m345 c345))) (fun g hl => ?_)
       have e8 : g 8 = .pointer (some ⟨b8, 0, none⟩) := (hl 8 (dK (by kernel_rfl))).2 (dK (by kernel_rfl))
       exact ⟨v_loadA (m := 3) (by kernel_rfl) e8 (.app (.there .here)) rfl, rfl⟩
   · refine ⟨?_, ?_, trivial⟩
     · refine obw_val (v := .agg hy.cells) (fun g hl => ?_)
       have e13 : g 13 = .pointer (some ⟨b13, 0, none⟩) := (hl 13 (dK (by kernel_rfl))).2 (dK (by kernel_rfl))
       exact ⟨v_loadA (m := 42) (by kernel_rfl) e13 (.app .here) (H.size _), rfl⟩
     · refine obw_val (v := .agg (repC 0 (0) (.slice a345 m345 c345))) (fun g hl => ?_)
       have e8 : g 8 = .pointer (some ⟨b8, 0, none⟩) := (hl 8 (dK (by kernel_rfl))).2 (dK (by kernel_rfl))
       exact ⟨v_loadA (m := 3) (by kernel_rfl) e8 (.app (.there .here)) rfl, rfl⟩
   · refine ⟨?_, ?_, trivial⟩
     · refine obw_val (v := .agg hy.cells) (fun g hl => ?_)
       have e13 : g 13 = .pointer (some ⟨b13, 0, none⟩) := (hl 13 (dK (by kernel_rfl))).2 (dK (by kernel_rfl))
       exact ⟨v_loadA (m := 42) (by kernel_rfl) e13 (.app .here) (H.size _), rfl⟩
     · refine obw_val (v := .agg (repC 0 (0) (.slice a345 m345 c345))) (fun g hl => ?_)
       have e8 : g 8 = .pointer (some ⟨b8, 0, none⟩) := (hl 8 (dK (by kernel_rfl))).2 (dK (by kernel_rfl))
       exact ⟨v_loadA (m := 3) (by kernel_rfl) e8 (.app (.there .here)) rfl, rfl⟩
   intro g hd he
   have e4 : g 4 = .pointer (some ⟨b4, 0, none⟩) := he 4 (dK (by kernel_rfl))
   have e5 : g 5 = .pointer (some ⟨b5, 0, none⟩) := he 5 (dK (by kernel_rfl))
   obtain ⟨g1, hg1⟩ : ∃ g1, g = (upd (upd g1 4 (.pointer (some ⟨b4, 0, none⟩))) 5 (.pointer (some ⟨b5, 0, none⟩))) := ⟨g, live2 e4 e5⟩
   rw [hg1]
   refine c_ret (n_done2CF (m := 42) (m' := 3) rfl (by decide) (by decide) rfl rfl (by kernel_rfl) (by kernel_rfl) (.app (.there (.there (.there (.app (.there .here)))))) (.app (.there (.there (.there (.app .here))))) (H.size _) rep_size (fun w hw => ?_))
   refine nextF_sweep (psx := ps) (d := []) (E := E345) ?_ hcy hlcy (hpe24.known (own_known hw (fun _ hq => (List.mem_append_right _ (List.mem_cons_of_mem _ (List.mem_cons_of_mem _ (List.mem_cons_of_mem _ (List.mem_append_left _ hq)))))))) (hpy.imp id fun q => q.mono (young_fresh hw)) hE345 (own_known hw (fun _ hq => (List.mem_append_left _ hq)))
   simp only [nextM, h18, h58, h158, h162, h167, hgc, k2, k3, cond_true, cond_false, Bool.not_true, Bool.not_false, Bool.or_true, Bool.true_or, Bool.or_false, Bool.false_or]
   rfl
 refine r_seq (by kernel_rfl) (s_val (v_eql (k := .i64) rfl rfl) (s_val (v_asB rfl) (s_nil (c_cond rfl rfl (fun h179 => ?_) (fun h179 => ?_)))))
 · refine c_seq (r_seq (by kernel_rfl) (s_val (v_mvB rfl) (s_val (v_not rfl) (s_val (v_mvB rfl) (s_splitN (s := 183) rfl (fun h183 => ?_) (fun h183 => ?_))))))
   · refine s_pass rfl rfl (congrArg not h183) (s_pass rfl rfl (congrArg not h183) (s_pass rfl rfl (congrArg not h183) (s_pass rfl rfl (congrArg not h183) (s_val (v_pickT (v := .bool _) rfl (congrArg not h183) rfl) (s_val (v_mvB rfl) (s_pass (g := true) rfl rfl rfl (s_pass (g := true) rfl rfl rfl (s_pass (g := true) rfl rfl rfl (s_pass (g := true) rfl rfl rfl (s_pass (g := true) rfl rfl rfl (s_val (v_pickT (v := .bool _) rfl rfl rfl) (s_val (v_mvB rfl) (s_pass (g := true) rfl rfl rfl (s_pass (g := true) rfl rfl rfl (s_pass (g := true) rfl rfl rfl (s_pass (g := true) rfl rfl rfl (s_val (v_pickT (v := .bool _) rfl rfl rfl) (s_nil (c_condTh rfl rfl rfl ?_)))))))))))))))))))
     refine r_seq (by kernel_rfl) (s_val (v_move (v := .func _ _ _) rfl) (s_callC (k := 32) (caps := [.pointer (some ⟨b2, 0, none⟩)]) rfl (by kernel_rfl) (fun w hw => gr_no h b2 3 w (fun j v hv => by rw [Nat.zero_add]; exact (cell_has hw (.there (.there (.app (.there (.there (.there .here))))))).trans hv)) (s_val (v_extract rfl rfl) (s_val (v_extract rfl rfl) (s_storeA (m := 42) (by kernel_rfl) rfl rfl (.there (.there (.app (.there .here)))) (H.size _) (H.size _) (H.all1 _) (s_storeA (m := 3) (by kernel_rfl) rfl rfl (.there (.there (.app .here))) rfl rfl rep_all (s_nil (c_ret (n_ret (n_bret (n_ret (n_done2CF (m := 42) (m' := 3) rfl (by decide) (by decide) rfl rfl (by kernel_rfl) (by kernel_rfl) (.there (.there (.app (.there .here)))) (.there (.there (.app .here))) (H.size _) rep_size (fun w hw => ?_)))))))))))))
     exact nextF_err (by simp only [nextM, h18, h58, h158, h179, h183, hgc, k2, k3, cond_true, cond_false, Bool.not_true, Bool.not_false, Bool.or_true, Bool.true_or, Bool.or_false, Bool.false_or]) hlc
   refine s_want rfl rfl (congrArg not h183) (s_val (v_fd 2 (by kernel_rfl) rfl) (s_want rfl rfl (congrArg not h183) (s_val (v_ldI (by kernel_rfl) rfl (.there (.there (.app (.there (.there .here))))) rfl) (s_want rfl rfl (congrArg not h183) (s_call (by kernel_rfl) (fun w hw => gr_within _ _ _ w) (s_want rfl rfl (congrArg not h183) (s_val (v_not rfl) (s_val (v_pickF (v := .bool _) rfl (congrArg not h183) rfl) (s_val (v_mvB rfl) (s_splitN (s := 189) rfl (fun h189 => ?_) (fun h189 => ?_)))))))))))
   · refine s_pass rfl rfl (congrArg not h189) (s_pass rfl rfl (congrArg not h189) (s_pass rfl rfl (congrArg not h189) (s_pass rfl rfl (congrArg not h189) (s_pass rfl rfl (congrArg not h189) (s_val (v_pickT (v := .bool _) rfl (congrArg not h189) rfl) (s_val (v_mvB rfl) (s_pass (g := true) rfl rfl rfl (s_pass (g := true) rfl rfl rfl (s_pass (g := true) rfl rfl rfl (s_pass (g := true) rfl rfl rfl (s_val (v_pickT (v := .bool _) rfl rfl rfl) (s_nil (c_condTh rfl rfl rfl (r_seq (by kernel_rfl) (s_val (v_move (v := .func _ _ _) rfl) (s_callC (k := 32) (caps := [.pointer (some ⟨b2, 0, none⟩)]) rfl (by kernel_rfl) (fun w hw => gr_no h b2 3 w (fun j v hv => by rw [Nat.zero_add]; exact (cell_has hw (.there (.there (.app (.there (.there (.there .here))))))).trans hv)) (s_val (v_extract rfl rfl) (s_val (v_extract rfl rfl) (s_storeA (m := 42) (by kernel_rfl) rfl rfl (.there (.there (.app (.there .here)))) (H.size _) (H.size _) (H.all1 _) ?_)))))))))))))))))))
     refine s_storeA (m := 3) (by kernel_rfl) rfl rfl (.there (.there (.app .here))) rfl rfl rep_all (s_nil (c_ret (n_ret (n_bret (n_ret (n_done2CF (m := 42) (m' := 3) rfl (by decide) (by decide) rfl rfl (by kernel_rfl) (by kernel_rfl) (.there (.there (.app (.there .here)))) (.there (.there (.app .here))) (H.size _) rep_size (fun w hw => ?_)))))))
     exact nextF_err (by simp only [nextM, h18, h58, h158, h179, h183, h189, hgc, k2, k3, cond_true, cond_false, Bool.not_true, Bool.not_false, Bool.or_true, Bool.true_or, Bool.or_false, Bool.false_or]) hlc
   refine s_want rfl rfl (congrArg not h189) (s_val (v_fd 1 (by kernel_rfl) rfl) (s_want rfl rfl (congrArg not h189) (s_val (v_ldI (by kernel_rfl) rfl (.there (.there (.app (.there (.there .here))))) rfl) (s_want rfl rfl (congrArg not h189) (s_val (v_fd 2 (by kernel_rfl) rfl) (s_want rfl rfl (congrArg not h189) (s_val (v_ldI (by kernel_rfl) rfl (.there (.there (.app (.there (.there .here))))) rfl) (s_want rfl rfl (congrArg not h189) (s_val (v_eql (k := .i64) rfl rfl) (s_val (v_pickF (v := .bool _) rfl (congrArg not h189) rfl) (s_val (v_mvB rfl) (s_split (s := 196) rfl (fun h196 => ?_) (fun h196 => ?_)))))))))))))
   · refine s_pass rfl rfl h196 (s_pass rfl rfl h196 (s_pass rfl rfl h196 (s_pass rfl rfl h196 (s_val (v_pickT (v := .bool _) rfl h196 rfl) (s_nil (c_condTh rfl rfl rfl (r_seq (by kernel_rfl) (s_val (v_move (v := .func _ _ _) rfl) (s_callC (k := 32) (caps := [.pointer (some ⟨b2, 0, none⟩)]) rfl (by kernel_rfl) (fun w hw => gr_no h b2 3 w (fun j v hv => by rw [Nat.zero_add]; exact (cell_has hw (.there (.there (.app (.there (.there (.there .here))))))).trans hv)) (s_val (v_extract rfl rfl) (s_val (v_extract rfl rfl) (s_storeA (m := 42) (by kernel_rfl) rfl rfl (.there (.there (.app (.there .here)))) (H.size _) (H.size _) (H.all1 _) (s_storeA (m := 3) (by kernel_rfl) rfl rfl (.there (.there (.app .here))) rfl rfl rep_all (s_nil (c_ret (n_ret (n_bret (n_ret (n_done2CF (m := 42) (m' := 3) rfl (by decide) (by decide) rfl rfl (by kernel_rfl) (by kernel_rfl) (.there (.there (.app (.there .here)))) (.there (.there (.app .here))) (H.size _) rep_size (fun w hw => ?_))))))))))))))))))))
     exact nextF_err (by simp only [nextM, h18, h58, h158, h179, h183, h189, h196, hgc, k2, k3, cond_true, cond_false, Bool.not_true, Bool.not_false, Bool.or_true, Bool.true_or, Bool.or_false, Bool.false_or]) hlc
   refine s_want rfl rfl h196 (s_val (v_fd 4 (by kernel_rfl) rfl) (s_want rfl rfl h196 (s_val (v_ldI (by kernel_rfl) rfl (.there (.there (.app (.there (.there .here))))) rfl) (s_want rfl rfl h196 (s_call (by kernel_rfl) (fun w hw => gr_within _ _ _ w) (s_want rfl rfl h196 (s_val (v_not rfl) (s_val (v_pickF (v := .bool _) rfl h196 rfl) (s_nil (c_condN rfl rfl (fun h201 => ?_) (fun h201 => ?_)))))))))))
   · refine r_seq (by kernel_rfl) (s_val (v_move (v := .func _ _ _) rfl) (s_callC (k := 32) (caps := [.pointer (some ⟨b2, 0, none⟩)]) rfl (by kernel_rfl) (fun w hw => gr_no h b2 3 w (fun j v hv => by rw [Nat.zero_add]; exact (cell_has hw (.there (.there (.app (.there (.there (.there .here))))))).trans hv)) (s_val (v_extract rfl rfl) (s_val (v_extract rfl rfl) (s_storeA (m := 42) (by kernel_rfl) rfl rfl (.there (.there (.app (.there .here)))) (H.size _) (H.size _) (H.all1 _) (s_storeA (m := 3) (by kernel_rfl) rfl rfl (.there (.there (.app .here))) rfl rfl rep_all (s_nil (c_ret (n_ret (n_bret (n_ret (n_done2CF (m := 42) (m' := 3) rfl (by decide) (by decide) rfl rfl (by kernel_rfl) (by kernel_rfl) (.there (.there (.app (.there .here)))) (.there (.there (.app .here))) (H.size _) rep_size (fun w hw => ?_)))))))))))))
     exact nextF_err (by simp only [nextM, h18, h58, h158, h179, h183, h189, h196, h201, hgc, k2, k3, cond_true, cond_false, Bool.not_true, Bool.not_false, Bool.or_true, Bool.true_or, Bool.or_false, Bool.false_or]) hlc
   have hwa := within_iff.1 h183
   have hwb := within_iff.1 h189
   have hwn := within_iff.1 h201
   refine c_skip (n_then (t_list (k := 9) (by kernel_rfl) (by kernel_rfl) (fun w hw => hw.drew) (by kernel_rfl) (q_val (v_fd 1 (by kernel_rfl) rfl) (q_val (v_ldI (by kernel_rfl) rfl (.there (.there (.app (.there (.there .here))))) rfl) (q_val (v_fd 2 (by kernel_rfl) rfl) (q_val (v_ldI (by kernel_rfl) rfl (.there (.there (.app (.there (.there .here))))) rfl) (q_val (v_fd 4 (by kernel_rfl) rfl) (q_val (v_ldI (by kernel_rfl) rfl (.there (.there (.app (.there (.there .here))))) rfl) (q_val (v_fd 24 (by kernel_rfl) rfl) (q_val (v_ixA 4 (by kernel_rfl) rfl rfl (by omega)) (q_val (v_ixA 1 (by kernel_rfl) rfl rfl (by omega)) (q_tail (s_store1 (v := .int .i64 _) (by kernel_rfl) rfl rfl (.there .here) (H.set_lim _ (by omega) (by omega)) rfl (s_end (n_bnormal (n_then (r_seq (by kernel_rfl) (s_val (v_loadA (m := 42) (by kernel_rfl) rfl (.there .here) (H.size _)) (s_callG (by kernel_rfl) (sweepF_mono _ _ _) (fun w hw => gr_SweepHouse _ ps w (hpe24.known (at_known hw (fun _ hq => (List.mem_cons_of_mem _ (List.mem_cons_of_mem _ (List.mem_append_left _ hq)))))) hb hpe24.2.1) (fun F339 v339 hF339 hR339 => ?_))))))))))))))))))))
   obtain ⟨hy, a341, c341, rfl, hcy, hlcy, hpy, hi341, hsl⟩ := sweepF_open hR339
   have hpsl : ps.length ≤ 25 := by have := hp.1; omega
   refine s_val (v_move (v := .tuple _) rfl) (s_val (v_extract rfl rfl) (s_val (v_extract rfl rfl) (s_alloc (z := .agg zeroH.cells) (by kernel_rfl) (fun b13 => ?_))))
   refine s_storeA (m := 42) (by kernel_rfl) rfl rfl .here (H.size _) (H.size _) (H.all1 _) (s_val (v_assign (v := .slice _ _ _) rfl) (s_nil ?_))
   
   refine r_seq (by kernel_rfl) (s_val (v_fd 2 (by kernel_rfl) rfl) (s_val (v_load1 (v := .slice _ _ _) (by kernel_rfl) rfl (.there .here) rfl) (s_val (v_move (v := .slice _ _ _) rfl) (s_pushAll (E := []) (n := 0) (xs := []) (e := 3) (by_ := 8) (by kernel_rfl) rfl rfl rfl rfl (listE_nil _ _) (hi341.mono (more_young _ _)) (bytes_ok (Nat.zero_le _) hsl hpsl) (fun v345 E345 hE345 => ?_)))))
   obtain ⟨a345, m345, c345, rfl⟩ := hE345.shape3
   refine s_val (v_fd 2 (by kernel_rfl) rfl) (s_store1 (v := .slice _ _ _) (by kernel_rfl) rfl rfl (.app (.there .here)) rep_setD rfl (s_nil ?_))
   apply f2_seq (j0 := 2) (j1 := 3) (Ψ := (rowV 347 (.agg hy.cells) (rowV 348 (.agg (repC 0 (0) (.slice a345 m345 c345))) AnyV))) (by kernel_rfl) (by kernel_rfl) (by kernel_rfl) (by kernel_rfl) (by kernel_rfl) rfl rfl
   · intro g hl
     have e4 : g 4 = .pointer (some ⟨b4, 0, none⟩) := (hl 4 (dK (by kernel_rfl))).2 (dK (by kernel_rfl))
     have e347 : g 347 = .agg hy.cells := (hl 347 (dK (by kernel_rfl))).1 (dK (by kernel_rfl))
     refine ⟨rfl, ?_⟩
     refine s_storeA (m := 42) (by kernel_rfl) e4 e347 (.app (.there (.there (.there (.app (.there .here)))))) (H.size _) (H.size _) (H.all1 _) ?_
     exact ow_end
   · intro g hl
     have e5 : g 5 = .pointer (some ⟨b5, 0, none⟩) := (hl 5 (dK (by kernel_rfl))).2 (dK (by kernel_rfl))
     have e348 : g 348 = .agg (repC 0 (0) (.slice a345 m345 c345)) := (hl 348 (dK (by kernel_rfl))).1 (dK (by kernel_rfl))
     refine ⟨rfl, ?_⟩
     refine s_storeA (m := 3) (by kernel_rfl) e5 e348 (.app (.there (.there (.there (.app .here))))) rfl rfl rep_all ?_
     exact ow_end
   · refine ⟨?_, ?_, trivial⟩
     · refine obw_val (v := .agg hy.cells) (fun g hl => ?_)
       have e13 : g 13 = .pointer (some ⟨b13, 0, none⟩) := (hl 13 (dK (by kernel_rfl))).2 (dK (by kernel_rfl))
       exact ⟨v_loadA (m := 42) (by kernel_rfl) e13 (.app .here) (H.size _), rfl⟩
     · refine obw_val (v := .agg (repC 0 (0) (.slice a345 m345 c345))) (fun g hl => ?_)
       have e8 : g 8 = .pointer (some ⟨b8, 0, none⟩) := (hl 8 (dK (by kernel_rfl))).2 (dK (by kernel_rfl))
       exact ⟨v_loadA (m := 3) (by kernel_rfl) e8 (.app (.there .here)) rfl, rfl⟩
   · refine ⟨?_, ?_, trivial⟩
     · refine obw_val (v := .agg hy.cells) (fun g hl => ?_)
       have e13 : g 13 = .pointer (some ⟨b13, 0, none⟩) := (hl 13 (dK (by kernel_rfl))).2 (dK (by kernel_rfl))
       exact ⟨v_loadA (m := 42) (by kernel_rfl) e13 (.app .here) (H.size _), rfl⟩
     · refine obw_val (v := .agg (repC 0 (0) (.slice a345 m345 c345))) (fun g hl => ?_)
       have e8 : g 8 = .pointer (some ⟨b8, 0, none⟩) := (hl 8 (dK (by kernel_rfl))).2 (dK (by kernel_rfl))
       exact ⟨v_loadA (m := 3) (by kernel_rfl) e8 (.app (.there .here)) rfl, rfl⟩
   · refine ⟨?_, ?_, trivial⟩
     · refine obw_val (v := .agg hy.cells) (fun g hl => ?_)
       have e13 : g 13 = .pointer (some ⟨b13, 0, none⟩) := (hl 13 (dK (by kernel_rfl))).2 (dK (by kernel_rfl))
       exact ⟨v_loadA (m := 42) (by kernel_rfl) e13 (.app .here) (H.size _), rfl⟩
     · refine obw_val (v := .agg (repC 0 (0) (.slice a345 m345 c345))) (fun g hl => ?_)
       have e8 : g 8 = .pointer (some ⟨b8, 0, none⟩) := (hl 8 (dK (by kernel_rfl))).2 (dK (by kernel_rfl))
       exact ⟨v_loadA (m := 3) (by kernel_rfl) e8 (.app (.there .here)) rfl, rfl⟩
   intro g hd he
   have e4 : g 4 = .pointer (some ⟨b4, 0, none⟩) := he 4 (dK (by kernel_rfl))
   have e5 : g 5 = .pointer (some ⟨b5, 0, none⟩) := he 5 (dK (by kernel_rfl))
   obtain ⟨g1, hg1⟩ : ∃ g1, g = (upd (upd g1 4 (.pointer (some ⟨b4, 0, none⟩))) 5 (.pointer (some ⟨b5, 0, none⟩))) := ⟨g, live2 e4 e5⟩
   rw [hg1]
   refine c_ret (n_done2CF (m := 42) (m' := 3) rfl (by decide) (by decide) rfl rfl (by kernel_rfl) (by kernel_rfl) (.app (.there (.there (.there (.app (.there .here)))))) (.app (.there (.there (.there (.app .here))))) (H.size _) rep_size (fun w hw => ?_))
   refine nextF_sweep (psx := ps) (d := []) (E := E345) ?_ hcy hlcy (hpe24.known (own_known hw (fun _ hq => (List.mem_append_right _ (List.mem_cons_of_mem _ (List.mem_cons_of_mem _ (List.mem_cons_of_mem _ (List.mem_append_left _ hq)))))))) (hpy.imp id fun q => q.mono (young_fresh hw)) hE345 (own_known hw (fun _ hq => (List.mem_append_left _ hq)))
   simp only [nextM, h18, h58, h158, h179, h183, h189, h196, h201, hgc, k2, k3, cond_true, cond_false, Bool.not_true, Bool.not_false, Bool.or_true, Bool.true_or, Bool.or_false, Bool.false_or]
   rfl
 refine c_seq (r_seq (by kernel_rfl) (s_val (v_eql (k := .i64) rfl rfl) (s_val (v_asB rfl) (s_nil (c_cond rfl rfl (fun h215 => ?_) (fun h215 => ?_))))))
 · have k6 := h215
   refine c_skip (n_then (c_condTh rfl rfl h215 (c_seq (r_seq (by kernel_rfl) (s_val (v_mvB rfl) (s_val (v_not rfl) (s_val (v_mvB rfl) (s_splitN (s := 220) rfl (fun h220 => ?_) (fun h220 => ?_)))))))))
   · refine s_pass rfl rfl (congrArg not h220) (s_pass rfl rfl (congrArg not h220) (s_pass rfl rfl (congrArg not h220) (s_pass rfl rfl (congrArg not h220) (s_val (v_pickT (v := .bool _) rfl (congrArg not h220) rfl) (s_nil (c_condTh rfl rfl rfl (r_seq (by kernel_rfl) (s_val (v_move (v := .func _ _ _) rfl) (s_callC (k := 32) (caps := [.pointer (some ⟨b2, 0, none⟩)]) rfl (by kernel_rfl) (fun w hw => gr_no h b2 3 w (fun j v hv => by rw [Nat.zero_add]; exact (cell_has hw (.there (.there (.app (.there (.there (.there .here))))))).trans hv)) (s_val (v_extract rfl rfl) (s_val (v_extract rfl rfl) (s_storeA (m := 42) (by kernel_rfl) rfl rfl (.there (.there (.app (.there .here)))) (H.size _) (H.size _) (H.all1 _) (s_storeA (m := 3) (by kernel_rfl) rfl rfl (.there (.there (.app .here))) rfl rfl rep_all (s_nil (c_ret (n_ret (n_bret (n_ret (n_done2CF (m := 42) (m' := 3) rfl (by decide) (by decide) rfl rfl (by kernel_rfl) (by kernel_rfl) (.there (.there (.app (.there .here)))) (.there (.there (.app .here))) (H.size _) rep_size (fun w hw => ?_))))))))))))))))))))
     exact nextF_err (by simp only [nextM, h18, h58, h158, h179, h220, hgc, k2, k3, k6, cond_true, cond_false, Bool.not_true, Bool.not_false, Bool.or_true, Bool.true_or, Bool.or_false, Bool.false_or]) hlc
   refine s_want rfl rfl (congrArg not h220) (s_val (v_fd 4 (by kernel_rfl) rfl) (s_want rfl rfl (congrArg not h220) (s_val (v_ldI (by kernel_rfl) rfl (.there (.there (.app (.there (.there .here))))) rfl) (s_want rfl rfl (congrArg not h220) (s_call (by kernel_rfl) (fun w hw => gr_within _ _ _ w) (s_want rfl rfl (congrArg not h220) (s_val (v_not rfl) (s_val (v_pickF (v := .bool _) rfl (congrArg not h220) rfl) (s_nil (c_condN rfl rfl (fun h225 => ?_) (fun h225 => ?_)))))))))))
   · refine r_seq (by kernel_rfl) (s_val (v_move (v := .func _ _ _) rfl) (s_callC (k := 32) (caps := [.pointer (some ⟨b2, 0, none⟩)]) rfl (by kernel_rfl) (fun w hw => gr_no h b2 3 w (fun j v hv => by rw [Nat.zero_add]; exact (cell_has hw (.there (.there (.app (.there (.there (.there .here))))))).trans hv)) (s_val (v_extract rfl rfl) (s_val (v_extract rfl rfl) (s_storeA (m := 42) (by kernel_rfl) rfl rfl (.there (.there (.app (.there .here)))) (H.size _) (H.size _) (H.all1 _) (s_storeA (m := 3) (by kernel_rfl) rfl rfl (.there (.there (.app .here))) rfl rfl rep_all (s_nil (c_ret (n_ret (n_bret (n_ret (n_done2CF (m := 42) (m' := 3) rfl (by decide) (by decide) rfl rfl (by kernel_rfl) (by kernel_rfl) (.there (.there (.app (.there .here)))) (.there (.there (.app .here))) (H.size _) rep_size (fun w hw => ?_)))))))))))))
     exact nextF_err (by simp only [nextM, h18, h58, h158, h179, h220, h225, hgc, k2, k3, k6, cond_true, cond_false, Bool.not_true, Bool.not_false, Bool.or_true, Bool.true_or, Bool.or_false, Bool.false_or]) hlc
   have hwa := within_iff.1 h220
   have hwn := within_iff.1 h225
   have hH : -1099511627776 ≤ h.has a.a ∧ h.has a.a ≤ 1099511627776 := (good_iff.1 hgc).house.has a.a ⟨by omega, by omega⟩
   have hCr : 0 ≤ h.cred a.a ∧ h.cred a.a ≤ 1000000 := (good_iff.1 hgc).house.cred a.a ⟨by omega, by omega⟩
   refine c_skip (n_then (c_seq (r_seq (by kernel_rfl) (s_val (v_fd 0 (by kernel_rfl) rfl) (s_val (v_ldI (by kernel_rfl) rfl (.there (.there (.app (.there (.there .here))))) rfl) (s_val (v_eql (k := .i64) rfl rfl) (s_val (v_mvB rfl) (s_want rfl rfl k6 (s_val (v_fd 1 (by kernel_rfl) rfl) (s_want rfl rfl k6 (s_val (v_ldI (by kernel_rfl) rfl (.there (.there (.app (.there (.there .here))))) rfl) (s_want rfl rfl k6 (s_val (v_fd 0 (by kernel_rfl) rfl) (s_want rfl rfl k6 (s_val (v_ixA 2 (by kernel_rfl) rfl rfl (by omega)) (s_want rfl rfl k6 (s_val (v_fd 0 (by kernel_rfl) rfl) (s_want rfl rfl k6 (s_val (v_ldI (by kernel_rfl) rfl (.there (.there (.app (.there (.there (.there .here)))))) (H.at_has _ (by omega))) ?_)))))))))))))))))))
   refine s_want rfl rfl k6 (s_val (v_geq (k := .i64) rfl rfl) (s_val (v_pickT (v := .bool _) rfl k6 rfl) (s_nil (c_cond rfl rfl (fun h241 => ?_) (fun h241 => ?_)))))
   · have q4 : decide (549755813888 ≤ h.core.has a.a) = true := h241
     refine r_seq (by kernel_rfl) (s_val (v_move (v := .func _ _ _) rfl) (s_callC (k := 32) (caps := [.pointer (some ⟨b2, 0, none⟩)]) rfl (by kernel_rfl) (fun w hw => gr_no h b2 5 w (fun j v hv => by rw [Nat.zero_add]; exact (cell_has hw (.there (.there (.app (.there (.there (.there .here))))))).trans hv)) (s_val (v_extract rfl rfl) (s_val (v_extract rfl rfl) (s_storeA (m := 42) (by kernel_rfl) rfl rfl (.there (.there (.app (.there .here)))) (H.size _) (H.size _) (H.all1 _) (s_storeA (m := 3) (by kernel_rfl) rfl rfl (.there (.there (.app .here))) rfl rfl rep_all (s_nil (c_ret (n_ret (n_bret (n_ret (n_done2CF (m := 42) (m' := 3) rfl (by decide) (by decide) rfl rfl (by kernel_rfl) (by kernel_rfl) (.there (.there (.app (.there .here)))) (.there (.there (.app .here))) (H.size _) rep_size (fun w hw => ?_)))))))))))))
     exact nextF_err (by simp only [nextM, h18, h58, h158, h179, h220, h225, k6, h241, hgc, k2, k3, q4, cond_true, cond_false, Bool.not_true, Bool.not_false, Bool.or_true, Bool.true_or, Bool.or_false, Bool.false_or]) hlc
   have q4 : decide (549755813888 ≤ h.core.has a.a) = false := h241
   refine c_skip (n_then (c_seq (d_seq (by kernel_rfl) (by kernel_rfl) (fun w hw => hw.drew) (by kernel_rfl) (q_val (v_fd 0 (by kernel_rfl) rfl) (q_val (v_ldI (by kernel_rfl) rfl (.there (.there (.app (.there (.there .here))))) rfl) (q_val (v_eql (k := .i64) rfl rfl) (q_val (v_mvB rfl) (q_pass rfl rfl (decide_eq_false (by have := of_decide_eq_true k6; omega)) (q_pass rfl rfl (decide_eq_false (by have := of_decide_eq_true k6; omega)) (q_pass rfl rfl (decide_eq_false (by have := of_decide_eq_true k6; omega)) (q_pass rfl rfl (decide_eq_false (by have := of_decide_eq_true k6; omega)) (q_pass rfl rfl (decide_eq_false (by have := of_decide_eq_true k6; omega)) (q_pass rfl rfl (decide_eq_false (by have := of_decide_eq_true k6; omega)) (q_pass rfl rfl (decide_eq_false (by have := of_decide_eq_true k6; omega)) (q_pass rfl rfl (decide_eq_false (by have := of_decide_eq_true k6; omega)) (q_pass rfl rfl (decide_eq_false (by have := of_decide_eq_true k6; omega)) (q_pass rfl rfl (decide_eq_false (by have := of_decide_eq_true k6; omega)) (q_pass rfl rfl (decide_eq_false (by have := of_decide_eq_true k6; omega)) (q_pass rfl rfl (decide_eq_false (by have := of_decide_eq_true k6; omega)) ?_)))))))))))))))))))
   refine q_pass rfl rfl (decide_eq_false (by have := of_decide_eq_true k6; omega)) (q_pass rfl rfl (decide_eq_false (by have := of_decide_eq_true k6; omega)) (q_pass rfl rfl (decide_eq_false (by have := of_decide_eq_true k6; omega)) (q_pass rfl rfl (decide_eq_false (by have := of_decide_eq_true k6; omega)) (q_val (v_pickF (v := .bool _) rfl (decide_eq_false (by have := of_decide_eq_true k6; omega)) rfl) (q_nil (c_condFh rfl rfl rfl (c_skip (n_then (r_seq (by kernel_rfl) (s_val (v_fd 0 (by kernel_rfl) rfl) (s_val (v_ldI (by kernel_rfl) rfl (.there (.there (.app (.there (.there .here))))) rfl) (s_val (v_eql (k := .i64) rfl rfl) (s_nil (c_condTh rfl rfl k6 (t_list (k := 12) (by kernel_rfl) (by kernel_rfl) (fun w hw => hw.drew) (by kernel_rfl) (q_val (v_fd 1 (by kernel_rfl) rfl) (q_val (v_ldI (by kernel_rfl) rfl (.there (.there (.app (.there (.there .here))))) rfl) (q_val (v_fd 0 (by kernel_rfl) rfl) (q_val (v_ixA 2 (by kernel_rfl) rfl rfl (by omega)) ?_)))))))))))))))))))
   refine q_val (v_fd 0 (by kernel_rfl) rfl) (q_val (v_ldI (by kernel_rfl) rfl (.there .here) (H.at_has _ (by omega))) (q_val (v_fd 4 (by kernel_rfl) rfl) (q_val (v_ldI (by kernel_rfl) rfl (.there (.there (.app (.there (.there .here))))) rfl) (q_val (v_add rfl rfl (by (try dsimp only); omega)) (q_val (v_fd 0 (by kernel_rfl) rfl) (q_val (v_ixA 2 (by kernel_rfl) rfl rfl (by omega)) (q_val (v_fd 0 (by kernel_rfl) rfl) (q_tail (s_store1 (v := .int .i64 _) (by kernel_rfl) rfl rfl (.there .here) (H.set_has _ (by omega)) rfl (s_end (n_bnormal (n_then (r_seq (by kernel_rfl) (s_val (v_loadA (m := 42) (by kernel_rfl) rfl (.there .here) (H.size _)) (s_callG (by kernel_rfl) (sweepF_mono _ _ _) (fun w hw => gr_SweepHouse _ ps w (hpe24.known (at_known hw (fun _ hq => (List.mem_cons_of_mem _ (List.mem_cons_of_mem _ (List.mem_append_left _ hq)))))) hb hpe24.2.1) (fun F339 v339 hF339 hR339 => ?_))))))))))))))))
   obtain ⟨hy, a341, c341, rfl, hcy, hlcy, hpy, hi341, hsl⟩ := sweepF_open hR339
   have hpsl : ps.length ≤ 25 := by have := hp.1; omega
   refine s_val (v_move (v := .tuple _) rfl) (s_val (v_extract rfl rfl) (s_val (v_extract rfl rfl) (s_alloc (z := .agg zeroH.cells) (by kernel_rfl) (fun b13 => ?_))))
   refine s_storeA (m := 42) (by kernel_rfl) rfl rfl .here (H.size _) (H.size _) (H.all1 _) (s_val (v_assign (v := .slice _ _ _) rfl) (s_nil ?_))
   
   refine r_seq (by kernel_rfl) (s_val (v_fd 2 (by kernel_rfl) rfl) (s_val (v_load1 (v := .slice _ _ _) (by kernel_rfl) rfl (.there .here) rfl) (s_val (v_move (v := .slice _ _ _) rfl) (s_pushAll (E := []) (n := 0) (xs := []) (e := 3) (by_ := 8) (by kernel_rfl) rfl rfl rfl rfl (listE_nil _ _) (hi341.mono (more_young _ _)) (bytes_ok (Nat.zero_le _) hsl hpsl) (fun v345 E345 hE345 => ?_)))))
   obtain ⟨a345, m345, c345, rfl⟩ := hE345.shape3
   refine s_val (v_fd 2 (by kernel_rfl) rfl) (s_store1 (v := .slice _ _ _) (by kernel_rfl) rfl rfl (.app (.there .here)) rep_setD rfl (s_nil ?_))
   apply f2_seq (j0 := 2) (j1 := 3) (Ψ := (rowV 347 (.agg hy.cells) (rowV 348 (.agg (repC 0 (0) (.slice a345 m345 c345))) AnyV))) (by kernel_rfl) (by kernel_rfl) (by kernel_rfl) (by kernel_rfl) (by kernel_rfl) rfl rfl
   · intro g hl
     have e4 : g 4 = .pointer (some ⟨b4, 0, none⟩) := (hl 4 (dK (by kernel_rfl))).2 (dK (by kernel_rfl))
     have e347 : g 347 = .agg hy.cells := (hl 347 (dK (by kernel_rfl))).1 (dK (by kernel_rfl))
     refine ⟨rfl, ?_⟩
     refine s_storeA (m := 42) (by kernel_rfl) e4 e347 (.app (.there (.there (.there (.app (.there .here)))))) (H.size _) (H.size _) (H.all1 _) ?_
     exact ow_end
   · intro g hl
     have e5 : g 5 = .pointer (some ⟨b5, 0, none⟩) := (hl 5 (dK (by kernel_rfl))).2 (dK (by kernel_rfl))
     have e348 : g 348 = .agg (repC 0 (0) (.slice a345 m345 c345)) := (hl 348 (dK (by kernel_rfl))).1 (dK (by kernel_rfl))
     refine ⟨rfl, ?_⟩
     refine s_storeA (m := 3) (by kernel_rfl) e5 e348 (.app (.there (.there (.there (.app .here))))) rfl rfl rep_all ?_
     exact ow_end
   · refine ⟨?_, ?_, trivial⟩
     · refine obw_val (v := .agg hy.cells) (fun g hl => ?_)
       have e13 : g 13 = .pointer (some ⟨b13, 0, none⟩) := (hl 13 (dK (by kernel_rfl))).2 (dK (by kernel_rfl))
       exact ⟨v_loadA (m := 42) (by kernel_rfl) e13 (.app .here) (H.size _), rfl⟩
     · refine obw_val (v := .agg (repC 0 (0) (.slice a345 m345 c345))) (fun g hl => ?_)
       have e8 : g 8 = .pointer (some ⟨b8, 0, none⟩) := (hl 8 (dK (by kernel_rfl))).2 (dK (by kernel_rfl))
       exact ⟨v_loadA (m := 3) (by kernel_rfl) e8 (.app (.there .here)) rfl, rfl⟩
   · refine ⟨?_, ?_, trivial⟩
     · refine obw_val (v := .agg hy.cells) (fun g hl => ?_)
       have e13 : g 13 = .pointer (some ⟨b13, 0, none⟩) := (hl 13 (dK (by kernel_rfl))).2 (dK (by kernel_rfl))
       exact ⟨v_loadA (m := 42) (by kernel_rfl) e13 (.app .here) (H.size _), rfl⟩
     · refine obw_val (v := .agg (repC 0 (0) (.slice a345 m345 c345))) (fun g hl => ?_)
       have e8 : g 8 = .pointer (some ⟨b8, 0, none⟩) := (hl 8 (dK (by kernel_rfl))).2 (dK (by kernel_rfl))
       exact ⟨v_loadA (m := 3) (by kernel_rfl) e8 (.app (.there .here)) rfl, rfl⟩
   · refine ⟨?_, ?_, trivial⟩
     · refine obw_val (v := .agg hy.cells) (fun g hl => ?_)
       have e13 : g 13 = .pointer (some ⟨b13, 0, none⟩) := (hl 13 (dK (by kernel_rfl))).2 (dK (by kernel_rfl))
       exact ⟨v_loadA (m := 42) (by kernel_rfl) e13 (.app .here) (H.size _), rfl⟩
     · refine obw_val (v := .agg (repC 0 (0) (.slice a345 m345 c345))) (fun g hl => ?_)
       have e8 : g 8 = .pointer (some ⟨b8, 0, none⟩) := (hl 8 (dK (by kernel_rfl))).2 (dK (by kernel_rfl))
       exact ⟨v_loadA (m := 3) (by kernel_rfl) e8 (.app (.there .here)) rfl, rfl⟩
   intro g hd he
   have e4 : g 4 = .pointer (some ⟨b4, 0, none⟩) := he 4 (dK (by kernel_rfl))
   have e5 : g 5 = .pointer (some ⟨b5, 0, none⟩) := he 5 (dK (by kernel_rfl))
   obtain ⟨g1, hg1⟩ : ∃ g1, g = (upd (upd g1 4 (.pointer (some ⟨b4, 0, none⟩))) 5 (.pointer (some ⟨b5, 0, none⟩))) := ⟨g, live2 e4 e5⟩
   rw [hg1]
   refine c_ret (n_done2CF (m := 42) (m' := 3) rfl (by decide) (by decide) rfl rfl (by kernel_rfl) (by kernel_rfl) (.app (.there (.there (.there (.app (.there .here)))))) (.app (.there (.there (.there (.app .here))))) (H.size _) rep_size (fun w hw => ?_))
   refine nextF_sweep (psx := ps) (d := []) (E := E345) ?_ hcy hlcy (hpe24.known (own_known hw (fun _ hq => (List.mem_append_right _ (List.mem_cons_of_mem _ (List.mem_cons_of_mem _ (List.mem_cons_of_mem _ (List.mem_append_left _ hq)))))))) (hpy.imp id fun q => q.mono (young_fresh hw)) hE345 (own_known hw (fun _ hq => (List.mem_append_left _ hq)))
   simp only [nextM, h18, h58, h158, h179, h220, h225, k6, h241, hgc, k2, k3, q4, cond_true, cond_false, Bool.not_true, Bool.not_false, Bool.or_true, Bool.true_or, Bool.or_false, Bool.false_or]
   rfl
 have k6 := h215
 refine r_list (by kernel_rfl) (s_val (v_eql (k := .i64) rfl rfl) (s_val (v_asB rfl) (s_end (n_then (c_cond rfl rfl (fun h215 => ?_) (fun h215 => ?_))))))
 · have k7 := h215
   refine c_seq (r_seq (by kernel_rfl) (s_val (v_mvB rfl) (s_val (v_not rfl) (s_val (v_mvB rfl) (s_splitN (s := 220) rfl (fun h220 => ?_) (fun h220 => ?_))))))
   · refine s_pass rfl rfl (congrArg not h220) (s_pass rfl rfl (congrArg not h220) (s_pass rfl rfl (congrArg not h220) (s_pass rfl rfl (congrArg not h220) (s_val (v_pickT (v := .bool _) rfl (congrArg not h220) rfl) (s_nil (c_condTh rfl rfl rfl (r_seq (by kernel_rfl) (s_val (v_move (v := .func _ _ _) rfl) (s_callC (k := 32) (caps := [.pointer (some ⟨b2, 0, none⟩)]) rfl (by kernel_rfl) (fun w hw => gr_no h b2 3 w (fun j v hv => by rw [Nat.zero_add]; exact (cell_has hw (.there (.there (.app (.there (.there (.there .here))))))).trans hv)) (s_val (v_extract rfl rfl) (s_val (v_extract rfl rfl) (s_storeA (m := 42) (by kernel_rfl) rfl rfl (.there (.there (.app (.there .here)))) (H.size _) (H.size _) (H.all1 _) (s_storeA (m := 3) (by kernel_rfl) rfl rfl (.there (.there (.app .here))) rfl rfl rep_all (s_nil (c_ret (n_ret (n_bret (n_ret (n_done2CF (m := 42) (m' := 3) rfl (by decide) (by decide) rfl rfl (by kernel_rfl) (by kernel_rfl) (.there (.there (.app (.there .here)))) (.there (.there (.app .here))) (H.size _) rep_size (fun w hw => ?_))))))))))))))))))))
     exact nextF_err (by simp only [nextM, h18, h58, h158, h179, h220, hgc, k2, k3, k6, k7, cond_true, cond_false, Bool.not_true, Bool.not_false, Bool.or_true, Bool.true_or, Bool.or_false, Bool.false_or]) hlc
   refine s_want rfl rfl (congrArg not h220) (s_val (v_fd 4 (by kernel_rfl) rfl) (s_want rfl rfl (congrArg not h220) (s_val (v_ldI (by kernel_rfl) rfl (.there (.there (.app (.there (.there .here))))) rfl) (s_want rfl rfl (congrArg not h220) (s_call (by kernel_rfl) (fun w hw => gr_within _ _ _ w) (s_want rfl rfl (congrArg not h220) (s_val (v_not rfl) (s_val (v_pickF (v := .bool _) rfl (congrArg not h220) rfl) (s_nil (c_condN rfl rfl (fun h225 => ?_) (fun h225 => ?_)))))))))))
   · refine r_seq (by kernel_rfl) (s_val (v_move (v := .func _ _ _) rfl) (s_callC (k := 32) (caps := [.pointer (some ⟨b2, 0, none⟩)]) rfl (by kernel_rfl) (fun w hw => gr_no h b2 3 w (fun j v hv => by rw [Nat.zero_add]; exact (cell_has hw (.there (.there (.app (.there (.there (.there .here))))))).trans hv)) (s_val (v_extract rfl rfl) (s_val (v_extract rfl rfl) (s_storeA (m := 42) (by kernel_rfl) rfl rfl (.there (.there (.app (.there .here)))) (H.size _) (H.size _) (H.all1 _) (s_storeA (m := 3) (by kernel_rfl) rfl rfl (.there (.there (.app .here))) rfl rfl rep_all (s_nil (c_ret (n_ret (n_bret (n_ret (n_done2CF (m := 42) (m' := 3) rfl (by decide) (by decide) rfl rfl (by kernel_rfl) (by kernel_rfl) (.there (.there (.app (.there .here)))) (.there (.there (.app .here))) (H.size _) rep_size (fun w hw => ?_)))))))))))))
     exact nextF_err (by simp only [nextM, h18, h58, h158, h179, h220, h225, hgc, k2, k3, k6, k7, cond_true, cond_false, Bool.not_true, Bool.not_false, Bool.or_true, Bool.true_or, Bool.or_false, Bool.false_or]) hlc
   have hwa := within_iff.1 h220
   have hwn := within_iff.1 h225
   have hH : -1099511627776 ≤ h.has a.a ∧ h.has a.a ≤ 1099511627776 := (good_iff.1 hgc).house.has a.a ⟨by omega, by omega⟩
   have hCr : 0 ≤ h.cred a.a ∧ h.cred a.a ≤ 1000000 := (good_iff.1 hgc).house.cred a.a ⟨by omega, by omega⟩
   refine c_skip (n_then (c_seq (r_seq (by kernel_rfl) (s_val (v_fd 0 (by kernel_rfl) rfl) (s_val (v_ldI (by kernel_rfl) rfl (.there (.there (.app (.there (.there .here))))) rfl) (s_val (v_eql (k := .i64) rfl rfl) (s_val (v_mvB rfl) (s_pass rfl rfl k6 (s_pass rfl rfl k6 (s_pass rfl rfl k6 (s_pass rfl rfl k6 (s_pass rfl rfl k6 (s_pass rfl rfl k6 (s_pass rfl rfl k6 (s_val (v_pickF (v := .bool _) rfl k6 rfl) (s_nil (c_condFh rfl rfl rfl (c_skip (n_then ?_)))))))))))))))))))
   refine c_seq (d_seq (by kernel_rfl) (by kernel_rfl) (fun w hw => hw.drew) (by kernel_rfl) (q_val (v_fd 0 (by kernel_rfl) rfl) (q_val (v_ldI (by kernel_rfl) rfl (.there (.there (.app (.there (.there .here))))) rfl) (q_val (v_eql (k := .i64) rfl rfl) (q_val (v_mvB rfl) (q_want rfl rfl k7 (q_val (v_fd 1 (by kernel_rfl) rfl) (q_want rfl rfl k7 (q_val (v_ldI (by kernel_rfl) rfl (.there (.there (.app (.there (.there .here))))) rfl) (q_want rfl rfl k7 (q_val (v_fd 0 (by kernel_rfl) rfl) (q_want rfl rfl k7 (q_val (v_ixA 2 (by kernel_rfl) rfl rfl (by omega)) (q_want rfl rfl k7 (q_val (v_fd 0 (by kernel_rfl) rfl) (q_want rfl rfl k7 (q_val (v_ldI (by kernel_rfl) rfl (.there (.there (.app (.there (.there (.there .here)))))) (H.at_has _ (by omega))) (q_want rfl rfl k7 (q_val (v_fd 1 (by kernel_rfl) rfl) ?_)))))))))))))))))))
   refine q_want rfl rfl k7 (q_val (v_ldI (by kernel_rfl) rfl (.there (.there (.app (.there (.there .here))))) rfl) (q_want rfl rfl k7 (q_val (v_fd 0 (by kernel_rfl) rfl) (q_want rfl rfl k7 (q_val (v_ixA 2 (by kernel_rfl) rfl rfl (by omega)) (q_want rfl rfl k7 (q_val (v_fd 1 (by kernel_rfl) rfl) (q_want rfl rfl k7 (q_val (v_ldI (by kernel_rfl) rfl (.there (.there (.app (.there (.there (.there .here)))))) (H.at_cred _ (by omega))) (q_want rfl rfl k7 (q_val (v_add rfl rfl (by (try dsimp only); omega)) (q_want rfl rfl k7 (q_val (v_fd 4 (by kernel_rfl) rfl) (q_want rfl rfl k7 (q_val (v_ldI (by kernel_rfl) rfl (.there (.there (.app (.there (.there .here))))) rfl) (q_want rfl rfl k7 (q_val (v_lsI rfl rfl) (q_val (v_pickT (v := .bool _) rfl k7 rfl) (q_nil ?_)))))))))))))))))))
   refine c_cond rfl rfl (fun h266 => ?_) (fun h266 => ?_)
   · have q5 : decide (h.core.has a.a + h.core.cred a.a < a.n) = true := h266
     refine r_seq (by kernel_rfl) (s_val (v_move (v := .func _ _ _) rfl) (s_callC (k := 32) (caps := [.pointer (some ⟨b2, 0, none⟩)]) rfl (by kernel_rfl) (fun w hw => gr_no h b2 6 w (fun j v hv => by rw [Nat.zero_add]; exact (cell_has hw (.there (.there (.app (.there (.there (.there .here))))))).trans hv)) (s_val (v_extract rfl rfl) (s_val (v_extract rfl rfl) (s_storeA (m := 42) (by kernel_rfl) rfl rfl (.there (.there (.app (.there .here)))) (H.size _) (H.size _) (H.all1 _) (s_storeA (m := 3) (by kernel_rfl) rfl rfl (.there (.there (.app .here))) rfl rfl rep_all (s_nil (c_ret (n_ret (n_bret (n_ret (n_done2CF (m := 42) (m' := 3) rfl (by decide) (by decide) rfl rfl (by kernel_rfl) (by kernel_rfl) (.there (.there (.app (.there .here)))) (.there (.there (.app .here))) (H.size _) rep_size (fun w hw => ?_)))))))))))))
     exact nextF_err (by simp only [nextM, h18, h58, h158, h179, h220, h225, k6, k7, h266, hgc, k2, k3, q5, cond_true, cond_false, Bool.not_true, Bool.not_false, Bool.or_true, Bool.true_or, Bool.or_false, Bool.false_or]) hlc
   have q5 : decide (h.core.has a.a + h.core.cred a.a < a.n) = false := h266
   refine c_skip (n_then (r_seq (by kernel_rfl) (s_val (v_fd 0 (by kernel_rfl) rfl) (s_val (v_ldI (by kernel_rfl) rfl (.there (.there (.app (.there (.there .here))))) rfl) (s_val (v_eql (k := .i64) rfl rfl) (s_nil (c_condFh rfl rfl k6 (t_list (k := 12) (by kernel_rfl) (by kernel_rfl) (fun w hw => hw.drew) (by kernel_rfl) (q_val (v_fd 1 (by kernel_rfl) rfl) (q_val (v_ldI (by kernel_rfl) rfl (.there (.there (.app (.there (.there .here))))) rfl) (q_val (v_fd 0 (by kernel_rfl) rfl) (q_val (v_ixA 2 (by kernel_rfl) rfl rfl (by omega)) (q_val (v_fd 0 (by kernel_rfl) rfl) (q_val (v_ldI (by kernel_rfl) rfl (.there .here) (H.at_has _ (by omega))) (q_val (v_fd 4 (by kernel_rfl) rfl) (q_val (v_ldI (by kernel_rfl) rfl (.there (.there (.app (.there (.there .here))))) rfl) (q_val (v_sub rfl rfl (by (try dsimp only); omega)) (q_val (v_fd 0 (by kernel_rfl) rfl) (q_val (v_ixA 2 (by kernel_rfl) rfl rfl (by omega)) ?_)))))))))))))))))))
   refine q_val (v_fd 0 (by kernel_rfl) rfl) (q_tail (s_store1 (v := .int .i64 _) (by kernel_rfl) rfl rfl (.there .here) (H.set_has _ (by omega)) rfl (s_end (n_bnormal (n_then (r_seq (by kernel_rfl) (s_val (v_loadA (m := 42) (by kernel_rfl) rfl (.there .here) (H.size _)) (s_callG (by kernel_rfl) (sweepF_mono _ _ _) (fun w hw => gr_SweepHouse _ ps w (hpe24.known (at_known hw (fun _ hq => (List.mem_cons_of_mem _ (List.mem_cons_of_mem _ (List.mem_append_left _ hq)))))) hb hpe24.2.1) (fun F339 v339 hF339 hR339 => ?_)))))))))
   obtain ⟨hy, a341, c341, rfl, hcy, hlcy, hpy, hi341, hsl⟩ := sweepF_open hR339
   have hpsl : ps.length ≤ 25 := by have := hp.1; omega
   refine s_val (v_move (v := .tuple _) rfl) (s_val (v_extract rfl rfl) (s_val (v_extract rfl rfl) (s_alloc (z := .agg zeroH.cells) (by kernel_rfl) (fun b13 => ?_))))
   refine s_storeA (m := 42) (by kernel_rfl) rfl rfl .here (H.size _) (H.size _) (H.all1 _) (s_val (v_assign (v := .slice _ _ _) rfl) (s_nil ?_))
   
   refine r_seq (by kernel_rfl) (s_val (v_fd 2 (by kernel_rfl) rfl) (s_val (v_load1 (v := .slice _ _ _) (by kernel_rfl) rfl (.there .here) rfl) (s_val (v_move (v := .slice _ _ _) rfl) (s_pushAll (E := []) (n := 0) (xs := []) (e := 3) (by_ := 8) (by kernel_rfl) rfl rfl rfl rfl (listE_nil _ _) (hi341.mono (more_young _ _)) (bytes_ok (Nat.zero_le _) hsl hpsl) (fun v345 E345 hE345 => ?_)))))
   obtain ⟨a345, m345, c345, rfl⟩ := hE345.shape3
   refine s_val (v_fd 2 (by kernel_rfl) rfl) (s_store1 (v := .slice _ _ _) (by kernel_rfl) rfl rfl (.app (.there .here)) rep_setD rfl (s_nil ?_))
   apply f2_seq (j0 := 2) (j1 := 3) (Ψ := (rowV 347 (.agg hy.cells) (rowV 348 (.agg (repC 0 (0) (.slice a345 m345 c345))) AnyV))) (by kernel_rfl) (by kernel_rfl) (by kernel_rfl) (by kernel_rfl) (by kernel_rfl) rfl rfl
   · intro g hl
     have e4 : g 4 = .pointer (some ⟨b4, 0, none⟩) := (hl 4 (dK (by kernel_rfl))).2 (dK (by kernel_rfl))
     have e347 : g 347 = .agg hy.cells := (hl 347 (dK (by kernel_rfl))).1 (dK (by kernel_rfl))
     refine ⟨rfl, ?_⟩
     refine s_storeA (m := 42) (by kernel_rfl) e4 e347 (.app (.there (.there (.there (.app (.there .here)))))) (H.size _) (H.size _) (H.all1 _) ?_
     exact ow_end
   · intro g hl
     have e5 : g 5 = .pointer (some ⟨b5, 0, none⟩) := (hl 5 (dK (by kernel_rfl))).2 (dK (by kernel_rfl))
     have e348 : g 348 = .agg (repC 0 (0) (.slice a345 m345 c345)) := (hl 348 (dK (by kernel_rfl))).1 (dK (by kernel_rfl))
     refine ⟨rfl, ?_⟩
     refine s_storeA (m := 3) (by kernel_rfl) e5 e348 (.app (.there (.there (.there (.app .here))))) rfl rfl rep_all ?_
     exact ow_end
   · refine ⟨?_, ?_, trivial⟩
     · refine obw_val (v := .agg hy.cells) (fun g hl => ?_)
       have e13 : g 13 = .pointer (some ⟨b13, 0, none⟩) := (hl 13 (dK (by kernel_rfl))).2 (dK (by kernel_rfl))
       exact ⟨v_loadA (m := 42) (by kernel_rfl) e13 (.app .here) (H.size _), rfl⟩
     · refine obw_val (v := .agg (repC 0 (0) (.slice a345 m345 c345))) (fun g hl => ?_)
       have e8 : g 8 = .pointer (some ⟨b8, 0, none⟩) := (hl 8 (dK (by kernel_rfl))).2 (dK (by kernel_rfl))
       exact ⟨v_loadA (m := 3) (by kernel_rfl) e8 (.app (.there .here)) rfl, rfl⟩
   · refine ⟨?_, ?_, trivial⟩
     · refine obw_val (v := .agg hy.cells) (fun g hl => ?_)
       have e13 : g 13 = .pointer (some ⟨b13, 0, none⟩) := (hl 13 (dK (by kernel_rfl))).2 (dK (by kernel_rfl))
       exact ⟨v_loadA (m := 42) (by kernel_rfl) e13 (.app .here) (H.size _), rfl⟩
     · refine obw_val (v := .agg (repC 0 (0) (.slice a345 m345 c345))) (fun g hl => ?_)
       have e8 : g 8 = .pointer (some ⟨b8, 0, none⟩) := (hl 8 (dK (by kernel_rfl))).2 (dK (by kernel_rfl))
       exact ⟨v_loadA (m := 3) (by kernel_rfl) e8 (.app (.there .here)) rfl, rfl⟩
   · refine ⟨?_, ?_, trivial⟩
     · refine obw_val (v := .agg hy.cells) (fun g hl => ?_)
       have e13 : g 13 = .pointer (some ⟨b13, 0, none⟩) := (hl 13 (dK (by kernel_rfl))).2 (dK (by kernel_rfl))
       exact ⟨v_loadA (m := 42) (by kernel_rfl) e13 (.app .here) (H.size _), rfl⟩
     · refine obw_val (v := .agg (repC 0 (0) (.slice a345 m345 c345))) (fun g hl => ?_)
       have e8 : g 8 = .pointer (some ⟨b8, 0, none⟩) := (hl 8 (dK (by kernel_rfl))).2 (dK (by kernel_rfl))
       exact ⟨v_loadA (m := 3) (by kernel_rfl) e8 (.app (.there .here)) rfl, rfl⟩
   intro g hd he
   have e4 : g 4 = .pointer (some ⟨b4, 0, none⟩) := he 4 (dK (by kernel_rfl))
   have e5 : g 5 = .pointer (some ⟨b5, 0, none⟩) := he 5 (dK (by kernel_rfl))
   obtain ⟨g1, hg1⟩ : ∃ g1, g = (upd (upd g1 4 (.pointer (some ⟨b4, 0, none⟩))) 5 (.pointer (some ⟨b5, 0, none⟩))) := ⟨g, live2 e4 e5⟩
   rw [hg1]
   refine c_ret (n_done2CF (m := 42) (m' := 3) rfl (by decide) (by decide) rfl rfl (by kernel_rfl) (by kernel_rfl) (.app (.there (.there (.there (.app (.there .here)))))) (.app (.there (.there (.there (.app .here))))) (H.size _) rep_size (fun w hw => ?_))
   refine nextF_sweep (psx := ps) (d := []) (E := E345) ?_ hcy hlcy (hpe24.known (own_known hw (fun _ hq => (List.mem_append_right _ (List.mem_cons_of_mem _ (List.mem_cons_of_mem _ (List.mem_cons_of_mem _ (List.mem_append_left _ hq)))))))) (hpy.imp id fun q => q.mono (young_fresh hw)) hE345 (own_known hw (fun _ hq => (List.mem_append_left _ hq)))
   simp only [nextM, h18, h58, h158, h179, h220, h225, k6, k7, h266, hgc, k2, k3, q5, cond_true, cond_false, Bool.not_true, Bool.not_false, Bool.or_true, Bool.true_or, Bool.or_false, Bool.false_or]
   rfl
 have k7 := h215
 refine r_seq (by kernel_rfl) (s_val (v_eql (k := .i64) rfl rfl) (s_val (v_asB rfl) (s_nil (c_cond rfl rfl (fun h298 => ?_) (fun h298 => ?_)))))
 · refine r_seq (by kernel_rfl) (s_val (v_loadA (m := 42) (by kernel_rfl) rfl (.there .here) (H.size _)) (s_callX (by kernel_rfl) (sweepX_mono _ _ _ _) (fun w hw => gr_UntieHouseX _ ps w (hpe24.known (at_known hw (fun _ hq => (List.mem_cons_of_mem _ (List.mem_cons_of_mem _ (List.mem_append_left _ hq)))))) hb hpe24.2.1) (fun F302 v302 E302 hF302 hR302 => ?_)))
   have hR302b : SweepX ({ h with pa := pa24, pc := pc24 } : H) ps (untieM h.core ps) 3 (Young w F302) v302 E302 := hR302
   obtain ⟨v303, v304, rfl, ⟨h303, rfl, hco3, hlc3, hpo3⟩, hE302⟩ := hR302b
   obtain ⟨a304, c304, rfl⟩ := hE302.shape
   have hpl3 : h303.pl = h.pl := by
     rcases hpo3 with q | q
     · exact q.2.1
     · have e := untie_len h.core ps; have e1 := q.1; have e2 := hp.1; omega
   have huxl := untie_xs_len (h := h.core) (ps := ps)
   have hpl0 := hp.1
   refine s_val (v_move (v := .tuple _) rfl) (s_val (v_extract rfl rfl) (s_val (v_extract rfl rfl) (s_storeA (m := 42) (by kernel_rfl) rfl rfl (.app (.there .here)) (H.size _) (H.size _) (H.all1 _) (s_val (v_fd 2 (by kernel_rfl) rfl) (s_store1 (v := .slice _ _ _) (by kernel_rfl) rfl rfl (.app .here) rep_setD rfl (s_nil (r_list (by kernel_rfl) (s_val (v_fd 2 (by kernel_rfl) rfl) (s_val (v_load1 (v := .slice _ _ _) (by kernel_rfl) rfl (.app .here) rfl) (s_val (v_lenS (T := 29) (m := 1) (by kernel_rfl) rfl rfl) (s_val (v_fd 1 (by kernel_rfl) rfl) (s_store1 (v := .int .i64 _) (by kernel_rfl) rfl rfl (.app .here) rep_setN rfl (s_end (n_bnormal (n_then (r_seq (by kernel_rfl) (s_val (v_loadA (m := 42) (by kernel_rfl) rfl (.app (.there .here)) (H.size _)) (s_callG (by kernel_rfl) (sweepF_mono _ _ _) (fun w hw => gr_SweepHouse _ (untieM h.core ps).ps w (hpo3.elim (fun e => by rw [e.1, e.2.1, e.2.2]; exact hpe24.known (at_known hw (fun _ hq => (List.mem_append_right _ (List.mem_cons_of_mem _ (List.mem_cons_of_mem _ (List.mem_append_left _ hq))))))) (fun q => q.mono (fun a v hy => hw.at a v hy.1))) (by rw [hpl3]; omega) hlc3) (fun F339 v339 hF339 hR339 => ?_)))))))))))))))))))
   obtain ⟨hy, a341, c341, rfl, hcy, hlcy, hpy, hi341, hsl⟩ := sweepF_open hR339
   have hpsl : (untieM h.core ps).ps.length ≤ 25 := by rw [untie_len]; have := hp.1; omega
   refine s_val (v_move (v := .tuple _) rfl) (s_val (v_extract rfl rfl) (s_val (v_extract rfl rfl) (s_alloc (z := .agg zeroH.cells) (by kernel_rfl) (fun b13 => ?_))))
   refine s_storeA (m := 42) (by kernel_rfl) rfl rfl .here (H.size _) (H.size _) (H.all1 _) (s_val (v_assign (v := .slice _ _ _) rfl) (s_nil (c_weak (fun w hw => hw.perm (perm_front (A := [_]) (E := E302))) (r_seq (by kernel_rfl) (s_val (v_fd 2 (by kernel_rfl) rfl) (s_val (v_load1 (v := .slice _ _ _) (by kernel_rfl) rfl (.app (.there .here)) rfl) (s_val (v_move (v := .slice _ _ _) rfl) (s_pushAll (e := 3) (by_ := 8) (by kernel_rfl) rfl rfl rfl rfl hE302 (hi341.mono (more_young _ _)) (bytes_ok (by omega) hsl hpsl) (fun v345 E345 hE345 => ?_)))))))))
   obtain ⟨a345, m345, c345, rfl⟩ := hE345.shape3
   refine s_val (v_fd 2 (by kernel_rfl) rfl) (s_store1 (v := .slice _ _ _) (by kernel_rfl) rfl rfl (.app (.there .here)) rep_setD rfl (s_nil ?_))
   apply f2_seq (j0 := 2) (j1 := 3) (Ψ := (rowV 347 (.agg hy.cells) (rowV 348 (.agg (repC 0 (((untieM h.core ps).xs.length : Int)) (.slice a345 m345 c345))) AnyV))) (by kernel_rfl) (by kernel_rfl) (by kernel_rfl) (by kernel_rfl) (by kernel_rfl) rfl rfl
   · intro g hl
     have e4 : g 4 = .pointer (some ⟨b4, 0, none⟩) := (hl 4 (dK (by kernel_rfl))).2 (dK (by kernel_rfl))
     have e347 : g 347 = .agg hy.cells := (hl 347 (dK (by kernel_rfl))).1 (dK (by kernel_rfl))
     refine ⟨rfl, ?_⟩
     refine s_storeA (m := 42) (by kernel_rfl) e4 e347 (.app (.there (.there (.there (.app (.there .here)))))) (H.size _) (H.size _) (H.all1 _) ?_
     exact ow_end
   · intro g hl
     have e5 : g 5 = .pointer (some ⟨b5, 0, none⟩) := (hl 5 (dK (by kernel_rfl))).2 (dK (by kernel_rfl))
     have e348 : g 348 = .agg (repC 0 (((untieM h.core ps).xs.length : Int)) (.slice a345 m345 c345)) := (hl 348 (dK (by kernel_rfl))).1 (dK (by kernel_rfl))
     refine ⟨rfl, ?_⟩
     refine s_storeA (m := 3) (by kernel_rfl) e5 e348 (.app (.there (.there (.there (.app .here))))) rfl rfl rep_all ?_
     exact ow_end
   · refine ⟨?_, ?_, trivial⟩
     · refine obw_val (v := .agg hy.cells) (fun g hl => ?_)
       have e13 : g 13 = .pointer (some ⟨b13, 0, none⟩) := (hl 13 (dK (by kernel_rfl))).2 (dK (by kernel_rfl))
       exact ⟨v_loadA (m := 42) (by kernel_rfl) e13 (.app .here) (H.size _), rfl⟩
     · refine obw_val (v := .agg (repC 0 (((untieM h.core ps).xs.length : Int)) (.slice a345 m345 c345))) (fun g hl => ?_)
       have e8 : g 8 = .pointer (some ⟨b8, 0, none⟩) := (hl 8 (dK (by kernel_rfl))).2 (dK (by kernel_rfl))
       exact ⟨v_loadA (m := 3) (by kernel_rfl) e8 (.app (.there .here)) rfl, rfl⟩
   · refine ⟨?_, ?_, trivial⟩
     · refine obw_val (v := .agg hy.cells) (fun g hl => ?_)
       have e13 : g 13 = .pointer (some ⟨b13, 0, none⟩) := (hl 13 (dK (by kernel_rfl))).2 (dK (by kernel_rfl))
       exact ⟨v_loadA (m := 42) (by kernel_rfl) e13 (.app .here) (H.size _), rfl⟩
     · refine obw_val (v := .agg (repC 0 (((untieM h.core ps).xs.length : Int)) (.slice a345 m345 c345))) (fun g hl => ?_)
       have e8 : g 8 = .pointer (some ⟨b8, 0, none⟩) := (hl 8 (dK (by kernel_rfl))).2 (dK (by kernel_rfl))
       exact ⟨v_loadA (m := 3) (by kernel_rfl) e8 (.app (.there .here)) rfl, rfl⟩
   · refine ⟨?_, ?_, trivial⟩
     · refine obw_val (v := .agg hy.cells) (fun g hl => ?_)
       have e13 : g 13 = .pointer (some ⟨b13, 0, none⟩) := (hl 13 (dK (by kernel_rfl))).2 (dK (by kernel_rfl))
       exact ⟨v_loadA (m := 42) (by kernel_rfl) e13 (.app .here) (H.size _), rfl⟩
     · refine obw_val (v := .agg (repC 0 (((untieM h.core ps).xs.length : Int)) (.slice a345 m345 c345))) (fun g hl => ?_)
       have e8 : g 8 = .pointer (some ⟨b8, 0, none⟩) := (hl 8 (dK (by kernel_rfl))).2 (dK (by kernel_rfl))
       exact ⟨v_loadA (m := 3) (by kernel_rfl) e8 (.app (.there .here)) rfl, rfl⟩
   intro g hd he
   have e4 : g 4 = .pointer (some ⟨b4, 0, none⟩) := he 4 (dK (by kernel_rfl))
   have e5 : g 5 = .pointer (some ⟨b5, 0, none⟩) := he 5 (dK (by kernel_rfl))
   obtain ⟨g1, hg1⟩ : ∃ g1, g = (upd (upd g1 4 (.pointer (some ⟨b4, 0, none⟩))) 5 (.pointer (some ⟨b5, 0, none⟩))) := ⟨g, live2 e4 e5⟩
   rw [hg1]
   refine c_ret (n_done2CF (m := 42) (m' := 3) rfl (by decide) (by decide) rfl rfl (by kernel_rfl) (by kernel_rfl) (.app (.there (.there (.there (.app (.there .here)))))) (.app (.there (.there (.there (.app .here))))) (H.size _) rep_size (fun w hw => ?_))
   refine nextF_sweep (psx := (untieM h.core ps).ps) (d := (untieM h.core ps).xs) (E := E345) ?_ hcy hlcy (hpo3.elim (fun e => by rw [e.1, e.2.1, e.2.2]; exact hpe24.known (own_known hw (fun _ hq => (List.mem_append_right _ (List.mem_cons_of_mem _ (List.mem_cons_of_mem _ (List.mem_cons_of_mem _ (List.mem_append_left _ hq)))))))) (fun q => q.mono (fun a v hy => young_fresh hw a v ⟨hF339 a v hy.1, hy.2⟩))) (hpy.imp id fun q => q.mono (young_fresh hw)) hE345 (own_known hw (fun _ hq => (List.mem_append_left _ hq)))
   simp only [nextM, h18, h58, h158, h179, h298, hgc, k2, k3, k6, k7, cond_true, cond_false, Bool.not_true, Bool.not_false, Bool.or_true, Bool.true_or, Bool.or_false, Bool.false_or]
   exact congrArg (fun c => sweepN c (untieM h.core ps).ps ((untieM h.core ps).xs.length : Int) (untieM h.core ps).xs) hco3.symm
 refine r_seq (by kernel_rfl) (s_val (v_eql (k := .i64) rfl rfl) (s_val (v_asB rfl) (s_nil (c_condR rfl rfl (fun h310 => ?_) (fun h310 => ?_)))))
 · refine r_seq (by kernel_rfl) (s_val (v_move (v := .func _ _ _) rfl) (s_callC (k := 32) (caps := [.pointer (some ⟨b2, 0, none⟩)]) rfl (by kernel_rfl) (fun w hw => gr_no h b2 2 w (fun j v hv => by rw [Nat.zero_add]; exact (cell_has hw (.there (.there (.app (.there (.there (.there .here))))))).trans hv)) (s_val (v_extract rfl rfl) (s_val (v_extract rfl rfl) (s_storeA (m := 42) (by kernel_rfl) rfl rfl (.there (.there (.app (.there .here)))) (H.size _) (H.size _) (H.all1 _) (s_storeA (m := 3) (by kernel_rfl) rfl rfl (.there (.there (.app .here))) rfl rfl rep_all (s_nil (c_ret (n_bret (n_ret (n_done2CF (m := 42) (m' := 3) rfl (by decide) (by decide) rfl rfl (by kernel_rfl) (by kernel_rfl) (.there (.there (.app (.there .here)))) (.there (.there (.app .here))) (H.size _) rep_size (fun w hw => ?_))))))))))))
   exact nextF_err (by simp only [nextM, h18, h58, h158, h179, h298, h310, hgc, k2, k3, k6, k7, cond_true, cond_false, Bool.not_true, Bool.not_false, Bool.or_true, Bool.true_or, Bool.or_false, Bool.false_or]) hlc
 
 refine c_seq (r_seq (by kernel_rfl) (s_val (v_fd 40 (by kernel_rfl) rfl) (s_val (v_load1 (v := .slice _ _ _) (by kernel_rfl) rfl (.there .here) (H.at_pays _)) (s_val (v_lenS (T := 41) (m := 6) (by kernel_rfl) rfl rfl) (s_val (v_mvI rfl) (s_nil (c_block (c_loop (σ := Nat × List (Nat × Obj)) (fun ((k, E) : Nat × List (Nat × Obj)) f => ∃ g, (k ≤ h.pl ∧ PaysE pa24 h.pl pc24 (goneTo ps k) E) ∧ f = (upd (upd (upd (upd (upd (upd (upd (upd g 2 (.pointer (some ⟨b2, 0, none⟩))) 3 (.pointer (some ⟨b3, 0, none⟩))) 4 (.pointer (some ⟨b4, 0, none⟩))) 5 (.pointer (some ⟨b5, 0, none⟩))) 7 (.pointer (some ⟨b7, 0, none⟩))) 8 (.pointer (some ⟨b8, 0, none⟩))) 314 (I h.pl)) 315 (I k))) (fun ((k, E) : Nat × List (Nat × Obj)) => Has w (At w) ((b8, .cells (repC 0 (cnt (ps.take k)) (.slice none 0 0)) 31) :: (b7, .cells ({ h with pa := pa24, pc := pc24 } : H).cells 43) :: (E ++ [(b5, .cells ((repC 0 0 (.slice none 0 0))) 31), (b4, .cells zeroH.cells 43), (b3, .cells a.cells 34), (b2, .cells h.cells 43)]))) (fun ((k, E) : Nat × List (Nat × Obj)) => h.pl - k) (0, E24) ⟨_, ⟨Nat.zero_le _, by rw [goneTo_zero]; exact hpe24⟩, live8 rfl rfl rfl rfl rfl rfl rfl rfl⟩ (fun w hw => hw) ?_))))))))
 rintro ⟨k, E⟩ _ ⟨g, ⟨hkl, hPE⟩, rfl⟩
 refine r_seq (by kernel_rfl) (s_val (v_lsI rfl rfl) (s_nil (c_seq (c_condR rfl rfl (fun h316 => ?_) (fun h316 => ?_)))))
 · have hk0 : k = h.pl := by have := of_decide_eq_false h316; omega
   refine c_exit (n_exit (n_exit (n_bhere (n_then ?_))))
   apply f2_seq (j0 := 2) (j1 := 3) (Ψ := (rowV 335 (.agg ({ h with pa := pa24, pc := pc24 } : H).cells) (rowV 336 (.agg (repC 0 (cnt (ps.take k)) (.slice none 0 0))) AnyV))) (by kernel_rfl) (by kernel_rfl) (by kernel_rfl) (by kernel_rfl) (by kernel_rfl) rfl rfl
   · intro g hl
     have e4 : g 4 = .pointer (some ⟨b4, 0, none⟩) := (hl 4 (dK (by kernel_rfl))).2 (dK (by kernel_rfl))
     have e335 : g 335 = .agg ({ h with pa := pa24, pc := pc24 } : H).cells := (hl 335 (dK (by kernel_rfl))).1 (dK (by kernel_rfl))
     refine ⟨rfl, ?_⟩
     refine s_storeA (m := 42) (by kernel_rfl) e4 e335 (.there (.there (.app (.there .here)))) (H.size _) (H.size _) (H.all1 _) ?_
     exact ow_end
   · intro g hl
     have e5 : g 5 = .pointer (some ⟨b5, 0, none⟩) := (hl 5 (dK (by kernel_rfl))).2 (dK (by kernel_rfl))
     have e336 : g 336 = .agg (repC 0 (cnt (ps.take k)) (.slice none 0 0)) := (hl 336 (dK (by kernel_rfl))).1 (dK (by kernel_rfl))
     refine ⟨rfl, ?_⟩
     refine s_storeA (m := 3) (by kernel_rfl) e5 e336 (.there (.there (.app .here))) rfl rfl rep_all ?_
     exact ow_end
   · refine ⟨?_, ?_, trivial⟩
     · refine obw_val (v := .agg ({ h with pa := pa24, pc := pc24 } : H).cells) (fun g hl => ?_)
       have e7 : g 7 = .pointer (some ⟨b7, 0, none⟩) := (hl 7 (dK (by kernel_rfl))).2 (dK (by kernel_rfl))
       exact ⟨v_loadA (m := 42) (by kernel_rfl) e7 (.there .here) (H.size _), rfl⟩
     · refine obw_val (v := .agg (repC 0 (cnt (ps.take k)) (.slice none 0 0))) (fun g hl => ?_)
       have e8 : g 8 = .pointer (some ⟨b8, 0, none⟩) := (hl 8 (dK (by kernel_rfl))).2 (dK (by kernel_rfl))
       exact ⟨v_loadA (m := 3) (by kernel_rfl) e8 .here rfl, rfl⟩
   · refine ⟨?_, ?_, trivial⟩
     · refine obw_val (v := .agg ({ h with pa := pa24, pc := pc24 } : H).cells) (fun g hl => ?_)
       have e7 : g 7 = .pointer (some ⟨b7, 0, none⟩) := (hl 7 (dK (by kernel_rfl))).2 (dK (by kernel_rfl))
       exact ⟨v_loadA (m := 42) (by kernel_rfl) e7 (.there .here) (H.size _), rfl⟩
     · refine obw_val (v := .agg (repC 0 (cnt (ps.take k)) (.slice none 0 0))) (fun g hl => ?_)
       have e8 : g 8 = .pointer (some ⟨b8, 0, none⟩) := (hl 8 (dK (by kernel_rfl))).2 (dK (by kernel_rfl))
       exact ⟨v_loadA (m := 3) (by kernel_rfl) e8 .here rfl, rfl⟩
   · refine ⟨?_, ?_, trivial⟩
     · refine obw_val (v := .agg ({ h with pa := pa24, pc := pc24 } : H).cells) (fun g hl => ?_)
       have e7 : g 7 = .pointer (some ⟨b7, 0, none⟩) := (hl 7 (dK (by kernel_rfl))).2 (dK (by kernel_rfl))
       exact ⟨v_loadA (m := 42) (by kernel_rfl) e7 (.there .here) (H.size _), rfl⟩
     · refine obw_val (v := .agg (repC 0 (cnt (ps.take k)) (.slice none 0 0))) (fun g hl => ?_)
       have e8 : g 8 = .pointer (some ⟨b8, 0, none⟩) := (hl 8 (dK (by kernel_rfl))).2 (dK (by kernel_rfl))
       exact ⟨v_loadA (m := 3) (by kernel_rfl) e8 .here rfl, rfl⟩
   intro g hd he
   have e4 : g 4 = .pointer (some ⟨b4, 0, none⟩) := he 4 (dK (by kernel_rfl))
   have e5 : g 5 = .pointer (some ⟨b5, 0, none⟩) := he 5 (dK (by kernel_rfl))
   obtain ⟨g1, hg1⟩ : ∃ g1, g = (upd (upd g1 4 (.pointer (some ⟨b4, 0, none⟩))) 5 (.pointer (some ⟨b5, 0, none⟩))) := ⟨g, live2 e4 e5⟩
   rw [hg1]
   refine c_ret (n_bret (n_ret (n_done2CF (m := 42) (m' := 3) rfl (by decide) (by decide) rfl rfl (by kernel_rfl) (by kernel_rfl) (.there (.there (.app (.there .here)))) (.there (.there (.app .here))) (H.size _) rep_size (fun w hw => ?_))))
   refine nextF_own (hx := ({ h with pa := pa24, pc := pc24 } : H)) ?_ hPE.2.1 (hPE.known (own_known hw (fun _ hq => (List.mem_cons_of_mem _ (List.mem_cons_of_mem _ (List.mem_append_left _ hq))))))
   simp only [nextM, h18, h58, h158, h179, h298, h310, h316, hgc, k2, k3, k6, k7, cond_true, cond_false, Bool.not_true, Bool.not_false, Bool.or_true, Bool.true_or, Bool.or_false, Bool.false_or]
   rw [hk0, ← hp.1, goneTo_all, List.take_length]
   rfl
 have hk0 := of_decide_eq_true h316
 obtain ⟨p, hpk, hd, ht⟩ := hp.get (k := k) (by omega)
 obtain ⟨b24, t24, cs24, hpa24, rfl, hsz24, hcs24⟩ := hPE.some (by omega)
 have hle24 := hPE.2.1
 have hgk := goneTo_at hpk
 have hct := cnt_le ps k
 have hstep := cnt_take hpk
 refine c_skip (n_then (c_seq (c_block (r_seq (by kernel_rfl) (s_val (v_mvI rfl) (s_val (v_asI rfl) (s_nil (r_seq (by kernel_rfl) (s_val (v_fd 40 (by kernel_rfl) rfl) (s_val (v_load1 (v := .slice _ _ _) (by kernel_rfl) rfl (.there .here) (H.at_pays _)) (s_val (v_mvI rfl) (s_val (v_idxS (size := 6) (k := .i64) (by kernel_rfl) (congrArg (fun a => Value.slice a h.pl pc24) hpa24) rfl ⟨by omega, by omega⟩) (s_val (v_fd 4 (by kernel_rfl) rfl) (s_val (v_load1 (v := I p.sta) (by kernel_rfl) rfl (.there (.there .here)) (by simpa using hcs24 k p hgk 4 (I p.sta) rfl)) (s_val (v_eql (k := .i64) rfl rfl) (s_nil (c_condR rfl rfl (fun h324 => ?_) (fun h324 => ?_))))))))))))))))))
 · refine c_skip (n_bnormal (n_then (r_list (by kernel_rfl) (s_val (v_add rfl rfl (by omega)) (s_val (v_mvI rfl) (s_end (n_round (s := (k, [(b24, .cells cs24 t24 (0, 0))])) (k + 1, [(b24, .cells cs24 t24 (0, 0))]) ⟨_, ⟨by omega, by rw [goneTo_no hpk h324]; exact hPE⟩, live8 rfl rfl rfl rfl rfl rfl rfl rfl⟩ (fun _ hw => by dsimp only; rw [hstep, h324]; exact hw) (by dsimp only; omega))))))))
 refine r_seq (by kernel_rfl) (s_val (v_fd 40 (by kernel_rfl) rfl) (s_val (v_load1 (v := .slice _ _ _) (by kernel_rfl) rfl (.there .here) (H.at_pays _)) (s_val (v_mvI rfl) (s_val (v_idxS (size := 6) (k := .i64) (by kernel_rfl) (congrArg (fun a => Value.slice a h.pl pc24) hpa24) rfl ⟨by omega, by omega⟩) (s_val (v_fd 4 (by kernel_rfl) rfl) (s_store1 (v := .int .i64 _) (by kernel_rfl) rfl rfl (.there (.there .here)) ⟨by rw [hsz24]; omega, rfl⟩ rfl (s_nil (r_list (by kernel_rfl) (s_val (v_fd 1 (by kernel_rfl) rfl) (s_val (v_ldI (by kernel_rfl) rfl .here rfl) (s_val (v_add rfl rfl (by (try dsimp only); omega)) (s_val (v_fd 1 (by kernel_rfl) rfl) (s_store1 (v := .int .i64 _) (by kernel_rfl) rfl rfl .here rep_setN rfl (s_end (n_bnormal (n_then (r_list (by kernel_rfl) (s_val (v_add rfl rfl (by omega)) (s_val (v_mvI rfl) ?_)))))))))))))))))))
 refine s_end (n_round (s := (k, [(b24, .cells cs24 t24 (0, 0))])) (k + 1, [(b24, .cells (cs24.setIfInBounds (0 + k * 6 + 4) (I 3)) t24 (0, 0))]) ⟨_, ⟨by omega, by rw [goneTo_len]; exact hp.1, hle24, .inr ⟨b24, t24, _, hpa24, rfl, by rw [Array.size_setIfInBounds]; exact hsz24, by rw [goneTo_step hpk, goneP_yes h324]; exact hcs24.sta hgk 3⟩⟩, live8 rfl rfl rfl rfl rfl rfl rfl rfl⟩ (fun _ hw => by dsimp only; rw [hstep, h324]; exact hw) (by dsimp only; omega))
end Go.Proofs.YtmkboljfbmlebacGreat
