/- What the laws of this place stand on, part 11. Each part names its own conditions in what it states. -/
import Derived.Test.YtmkboljfbmlebacQ10
import Derived.Laws.CopyRow
namespace Go.Proofs.Ytmkboljfbmlebac
open Go.RowKit
set_option linter.unusedSimpArgs false
set_option linter.unusedVariables false
set_option maxRecDepth 100000
attribute [local irreducible] cC sC nC rC qw
set_option maxHeartbeats 1000000 in
theorem g_stepOf (n : Int) (w : World) : GivesF Try.prog 27 [I n] w (StepF Try.prog 3 65 n) := by
 refine givesF_of Try.func27 rfl Try.ntmps27 (by simp) ?_
 refine r_seq (by kernel_rfl) ?_
 refine s_val (v_assign (v := _) rfl) ?_
 refine s_val (v_assign (v := .bool _) rfl) ?_
 refine s_nil ?_
 refine c_seq ?_
 refine r_seq (by kernel_rfl) ?_
 refine s_val (v_move (v := .int .i64 _) rfl) ?_
 refine s_nil ?_
 refine c_block ?_
 refine r_seq (by kernel_rfl) ?_
 refine s_val (v_eql (k := .i64) rfl rfl) ?_
 refine s_val (v_assign (v := .bool _) rfl) ?_
 refine s_nil ?_
 refine c_cond rfl rfl (fun h5 => ?_) (fun h5 => ?_)
 · refine r_list (by kernel_rfl) ?_
   refine s_val (v_assign (v := .func _ _ _) rfl) ?_
   refine s_end ?_
   refine n_bnormal ?_
   refine n_then ?_
   refine r_seq (by kernel_rfl) ?_
   refine s_val (v_move (v := .func _ _ _) rfl) ?_
   refine s_callE (by kernel_rfl) (fun w hw => g_swept 40 w) (fun v24 E24 hR24 => ?_)
   obtain ⟨bb, rfl, rfl⟩ := hR24
   refine s_val (v_assign (v := .func _ _ _) rfl) ?_
   refine s_val (v_assign (v := .bool _) rfl) ?_
   refine s_nil ?_
   refine c_ret ?_
   refine n_doneTF rfl (by decide) (by decide) (fun w1 hw => ?_)
   refine ⟨_, true, rfl, (fun hh => by cases hh), fun _ => ⟨58, [.pointer (some ⟨bb, 0, none⟩)], rfl, by kernel_rfl, fun F' h ps a E hF hk hE hl hg => ?_⟩⟩
   rw [nx_pay hg (hk.trans (of_decide_eq_true h5))]
   exact g_swept1 40 bb F' h a E _ (by kernel_rfl) (short_pay (good_pays hg).2.2) (hF _ _ (own_known hw (fun _ q => q) bb _ _ _ (.head _) 0 _ rfl)) (g_pay F' h ps a E hE hl hg)
 refine r_seq (by kernel_rfl) ?_
 refine s_val (v_eql (k := .i64) rfl rfl) ?_
 refine s_val (v_assign (v := .bool _) rfl) ?_
 refine s_nil ?_
 refine c_cond rfl rfl (fun h7 => ?_) (fun h7 => ?_)
 · refine r_list (by kernel_rfl) ?_
   refine s_val (v_assign (v := .func _ _ _) rfl) ?_
   refine s_end ?_
   refine n_bnormal ?_
   refine n_then ?_
   refine r_seq (by kernel_rfl) ?_
   refine s_val (v_move (v := .func _ _ _) rfl) ?_
   refine s_callE (by kernel_rfl) (fun w hw => g_swept 41 w) (fun v24 E24 hR24 => ?_)
   obtain ⟨bb, rfl, rfl⟩ := hR24
   refine s_val (v_assign (v := .func _ _ _) rfl) ?_
   refine s_val (v_assign (v := .bool _) rfl) ?_
   refine s_nil ?_
   refine c_ret ?_
   refine n_doneTF rfl (by decide) (by decide) (fun w1 hw => ?_)
   refine ⟨_, true, rfl, (fun hh => by cases hh), fun _ => ⟨58, [.pointer (some ⟨bb, 0, none⟩)], rfl, by kernel_rfl, fun F' h ps a E hF hk hE hl hg => ?_⟩⟩
   rw [nx_revoke hg (hk.trans (of_decide_eq_true h7))]
   exact g_swept1 41 bb F' h a E _ (by kernel_rfl) (short_revoke (good_pays hg).2.2) (hF _ _ (own_known hw (fun _ q => q) bb _ _ _ (.head _) 0 _ rfl)) (g_revoke F' h ps a E hE hl hg)
 refine r_seq (by kernel_rfl) ?_
 refine s_val (v_eql (k := .i64) rfl rfl) ?_
 refine s_val (v_assign (v := .bool _) rfl) ?_
 refine s_nil ?_
 refine c_cond rfl rfl (fun h9 => ?_) (fun h9 => ?_)
 · refine r_list (by kernel_rfl) ?_
   refine s_val (v_assign (v := .func _ _ _) rfl) ?_
   refine s_end ?_
   refine n_bnormal ?_
   refine n_then ?_
   refine r_seq (by kernel_rfl) ?_
   refine s_val (v_move (v := .func _ _ _) rfl) ?_
   refine s_callE (by kernel_rfl) (fun w hw => g_swept 42 w) (fun v24 E24 hR24 => ?_)
   obtain ⟨bb, rfl, rfl⟩ := hR24
   refine s_val (v_assign (v := .func _ _ _) rfl) ?_
   refine s_val (v_assign (v := .bool _) rfl) ?_
   refine s_nil ?_
   refine c_ret ?_
   refine n_doneTF rfl (by decide) (by decide) (fun w1 hw => ?_)
   refine ⟨_, true, rfl, (fun hh => by cases hh), fun _ => ⟨58, [.pointer (some ⟨bb, 0, none⟩)], rfl, by kernel_rfl, fun F' h ps a E hF hk hE hl hg => ?_⟩⟩
   rw [nx_class hg (hk.trans (of_decide_eq_true h9))]
   exact g_swept1 42 bb F' h a E _ (by kernel_rfl) (short_class (good_pays hg).2.2) (hF _ _ (own_known hw (fun _ q => q) bb _ _ _ (.head _) 0 _ rfl)) (g_class F' h ps a E hE hl hg)
 refine r_seq (by kernel_rfl) ?_
 refine s_val (v_eql (k := .i64) rfl rfl) ?_
 refine s_val (v_assign (v := .bool _) rfl) ?_
 refine s_nil ?_
 refine c_cond rfl rfl (fun h11 => ?_) (fun h11 => ?_)
 · refine r_list (by kernel_rfl) ?_
   refine s_val (v_assign (v := .func _ _ _) rfl) ?_
   refine s_end ?_
   refine n_bnormal ?_
   refine n_then ?_
   refine r_seq (by kernel_rfl) ?_
   refine s_val (v_move (v := .func _ _ _) rfl) ?_
   refine s_callE (by kernel_rfl) (fun w hw => g_swept 43 w) (fun v24 E24 hR24 => ?_)
   obtain ⟨bb, rfl, rfl⟩ := hR24
   refine s_val (v_assign (v := .func _ _ _) rfl) ?_
   refine s_val (v_assign (v := .bool _) rfl) ?_
   refine s_nil ?_
   refine c_ret ?_
   refine n_doneTF rfl (by decide) (by decide) (fun w1 hw => ?_)
   refine ⟨_, true, rfl, (fun hh => by cases hh), fun _ => ⟨58, [.pointer (some ⟨bb, 0, none⟩)], rfl, by kernel_rfl, fun F' h ps a E hF hk hE hl hg => ?_⟩⟩
   rw [nx_credit hg (hk.trans (of_decide_eq_true h11))]
   exact g_swept1 43 bb F' h a E _ (by kernel_rfl) (short_credit (good_pays hg).2.2) (hF _ _ (own_known hw (fun _ q => q) bb _ _ _ (.head _) 0 _ rfl)) (g_credit F' h ps a E hE hl hg)
 refine r_seq (by kernel_rfl) ?_
 refine s_val (v_eql (k := .i64) rfl rfl) ?_
 refine s_val (v_assign (v := .bool _) rfl) ?_
 refine s_nil ?_
 refine c_cond rfl rfl (fun h13 => ?_) (fun h13 => ?_)
 · refine r_list (by kernel_rfl) ?_
   refine s_val (v_assign (v := .func _ _ _) rfl) ?_
   refine s_end ?_
   refine n_bnormal ?_
   refine n_then ?_
   refine r_seq (by kernel_rfl) ?_
   refine s_val (v_move (v := .func _ _ _) rfl) ?_
   refine s_callE (by kernel_rfl) (fun w hw => g_swept 44 w) (fun v24 E24 hR24 => ?_)
   obtain ⟨bb, rfl, rfl⟩ := hR24
   refine s_val (v_assign (v := .func _ _ _) rfl) ?_
   refine s_val (v_assign (v := .bool _) rfl) ?_
   refine s_nil ?_
   refine c_ret ?_
   refine n_doneTF rfl (by decide) (by decide) (fun w1 hw => ?_)
   refine ⟨_, true, rfl, (fun hh => by cases hh), fun _ => ⟨58, [.pointer (some ⟨bb, 0, none⟩)], rfl, by kernel_rfl, fun F' h ps a E hF hk hE hl hg => ?_⟩⟩
   rw [nx_limit hg (hk.trans (of_decide_eq_true h13))]
   exact g_swept1 44 bb F' h a E _ (by kernel_rfl) (short_limit (good_pays hg).2.2) (hF _ _ (own_known hw (fun _ q => q) bb _ _ _ (.head _) 0 _ rfl)) (g_limit F' h ps a E hE hl hg)
 refine r_seq (by kernel_rfl) ?_
 refine s_val (v_eql (k := .i64) rfl rfl) ?_
 refine s_val (v_assign (v := .bool _) rfl) ?_
 refine s_nil ?_
 refine c_cond rfl rfl (fun h15 => ?_) (fun h15 => ?_)
 · refine r_list (by kernel_rfl) ?_
   refine s_val (v_assign (v := .func _ _ _) rfl) ?_
   refine s_end ?_
   refine n_bnormal ?_
   refine n_then ?_
   refine r_seq (by kernel_rfl) ?_
   refine s_val (v_move (v := .func _ _ _) rfl) ?_
   refine s_callE (by kernel_rfl) (fun w hw => g_swept 45 w) (fun v24 E24 hR24 => ?_)
   obtain ⟨bb, rfl, rfl⟩ := hR24
   refine s_val (v_assign (v := .func _ _ _) rfl) ?_
   refine s_val (v_assign (v := .bool _) rfl) ?_
   refine s_nil ?_
   refine c_ret ?_
   refine n_doneTF rfl (by decide) (by decide) (fun w1 hw => ?_)
   refine ⟨_, true, rfl, (fun hh => by cases hh), fun _ => ⟨58, [.pointer (some ⟨bb, 0, none⟩)], rfl, by kernel_rfl, fun F' h ps a E hF hk hE hl hg => ?_⟩⟩
   rw [nx_fund hg (hk.trans (of_decide_eq_true h15))]
   exact g_swept1 45 bb F' h a E _ (by kernel_rfl) (short_fund (good_pays hg).2.2) (hF _ _ (own_known hw (fun _ q => q) bb _ _ _ (.head _) 0 _ rfl)) (g_fund F' h ps a E hE hl hg)
 refine r_seq (by kernel_rfl) ?_
 refine s_val (v_eql (k := .i64) rfl rfl) ?_
 refine s_val (v_assign (v := .bool _) rfl) ?_
 refine s_nil ?_
 refine c_cond rfl rfl (fun h17 => ?_) (fun h17 => ?_)
 · refine r_list (by kernel_rfl) ?_
   refine s_val (v_assign (v := .func _ _ _) rfl) ?_
   refine s_end ?_
   refine n_bnormal ?_
   refine n_then ?_
   refine r_seq (by kernel_rfl) ?_
   refine s_val (v_move (v := .func _ _ _) rfl) ?_
   refine s_callE (by kernel_rfl) (fun w hw => g_swept 46 w) (fun v24 E24 hR24 => ?_)
   obtain ⟨bb, rfl, rfl⟩ := hR24
   refine s_val (v_assign (v := .func _ _ _) rfl) ?_
   refine s_val (v_assign (v := .bool _) rfl) ?_
   refine s_nil ?_
   refine c_ret ?_
   refine n_doneTF rfl (by decide) (by decide) (fun w1 hw => ?_)
   refine ⟨_, true, rfl, (fun hh => by cases hh), fun _ => ⟨58, [.pointer (some ⟨bb, 0, none⟩)], rfl, by kernel_rfl, fun F' h ps a E hF hk hE hl hg => ?_⟩⟩
   rw [nx_spend hg (hk.trans (of_decide_eq_true h17))]
   exact g_swept1 46 bb F' h a E _ (by kernel_rfl) (short_spend (good_pays hg).2.2) (hF _ _ (own_known hw (fun _ q => q) bb _ _ _ (.head _) 0 _ rfl)) (g_spend F' h ps a E hE hl hg)
 refine r_seq (by kernel_rfl) ?_
 refine s_val (v_eql (k := .i64) rfl rfl) ?_
 refine s_val (v_assign (v := .bool _) rfl) ?_
 refine s_nil ?_
 refine c_cond rfl rfl (fun h19 => ?_) (fun h19 => ?_)
 · refine r_list (by kernel_rfl) ?_
   refine s_val (v_assign (v := .func _ _ _) rfl) ?_
   refine s_end ?_
   refine n_bnormal ?_
   refine n_then ?_
   refine r_seq (by kernel_rfl) ?_
   refine s_val (v_move (v := .func _ _ _) rfl) ?_
   refine s_callE (by kernel_rfl) (fun w hw => g_swept 47 w) (fun v24 E24 hR24 => ?_)
   obtain ⟨bb, rfl, rfl⟩ := hR24
   refine s_val (v_assign (v := .func _ _ _) rfl) ?_
   refine s_val (v_assign (v := .bool _) rfl) ?_
   refine s_nil ?_
   refine c_ret ?_
   refine n_doneTF rfl (by decide) (by decide) (fun w1 hw => ?_)
   refine ⟨_, true, rfl, (fun hh => by cases hh), fun _ => ⟨58, [.pointer (some ⟨bb, 0, none⟩)], rfl, by kernel_rfl, fun F' h ps a E hF hk hE hl hg => ?_⟩⟩
   rw [nx_untie hg (hk.trans (of_decide_eq_true h19))]
   exact g_swept1 47 bb F' h a E _ (by kernel_rfl) (short_untie (good_pays hg).2.2) (hF _ _ (own_known hw (fun _ q => q) bb _ _ _ (.head _) 0 _ rfl)) (g_untie F' h ps a E hE hl hg)
 refine r_seq (by kernel_rfl) ?_
 refine s_val (v_eql (k := .i64) rfl rfl) ?_
 refine s_val (v_assign (v := .bool _) rfl) ?_
 refine s_nil ?_
 refine c_cond rfl rfl (fun h21 => ?_) (fun h21 => ?_)
 · refine r_seq (by kernel_rfl) ?_
   refine s_val (v_assign (v := .func _ _ _) rfl) ?_
   refine s_val (v_assign (v := .bool _) rfl) ?_
   refine s_nil ?_
   refine c_ret ?_
   refine n_bret ?_
   refine n_ret ?_
   refine n_doneTF rfl (by decide) (by decide) (fun w1 hw => ?_)
   refine ⟨_, true, rfl, (fun hh => by cases hh), fun _ => ⟨48, [], rfl, by kernel_rfl, fun F' h ps a E hF hk hE hl hg => ?_⟩⟩
   rw [nx_close hg (hk.trans (of_decide_eq_true h21))]
   exact g_closeAll F' h ps a E hE hl hg
 refine r_seq (by kernel_rfl) ?_
 refine s_val (v_assign (v := _) rfl) ?_
 refine s_val (v_assign (v := .bool _) rfl) ?_
 refine s_nil ?_
 refine c_ret ?_
 refine n_bret ?_
 refine n_ret ?_
 refine n_doneTF rfl (by decide) (by decide) (fun w1 hw => ?_)
 refine ⟨_, false, rfl, fun _ => ?_, (fun hh => by cases hh)⟩
 have h5n := of_decide_eq_false h5
 have h7n := of_decide_eq_false h7
 have h9n := of_decide_eq_false h9
 have h11n := of_decide_eq_false h11
 have h13n := of_decide_eq_false h13
 have h15n := of_decide_eq_false h15
 have h17n := of_decide_eq_false h17
 have h19n := of_decide_eq_false h19
 have h21n := of_decide_eq_false h21
 omega
end Go.Proofs.Ytmkboljfbmlebac
namespace Go.Proofs.Ytmkboljfbmlebac
open Go.RowKit
set_option linter.unusedSimpArgs false
set_option linter.unusedVariables false
set_option maxRecDepth 100000
attribute [local irreducible] cC sC nC rC qw
set_option maxHeartbeats 1000000 in
theorem g_NextBad (F : Addr → Value → Prop) (h : H) (ps : List PayS) (a : ActS) (hp : PaysIn F h.pa h.pl ps) (hb : h.pl * 48 ≤ 281474976710656) (hgc : goodB h.core ps = false) : GivesV Try.prog 22 [.agg h.cells, .agg a.cells] F ([]) (NextV 3 (nextM h.core ps a)) := by
 refine givesV_of Try.func22 rfl Try.ntmps22 (by simp) (fun w K => ?_)
 refine r_seq (by kernel_rfl) ?_
 refine s_box (v := .agg _) rfl (fun b2 => ?_)
 refine s_box (v := .agg _) rfl (fun b3 => ?_)
 refine s_alloc (z := .agg zeroH.cells) (by kernel_rfl) (fun b4 => ?_)
 refine s_alloc (z := .agg (repC 0 0 (.slice none 0 0))) (by kernel_rfl) (fun b5 => ?_)
 refine s_nil ?_
 refine r_seq (by kernel_rfl) ?_
 refine s_val (v_loadA (m := 42) (by kernel_rfl) rfl (.there (.there (.there .here))) (H.size _)) ?_
 refine s_callE (by kernel_rfl) (fun w hw => g_ownP h ps w (hp.at hw) hb) (fun v9 E9 hR9 => ?_)
 obtain ⟨pa9, pc9, rfl, hE9⟩ := hR9
 have hpe9 := hE9
 refine s_storeA (m := 42) (by kernel_rfl) rfl rfl (.app (.there (.there (.there .here)))) (H.size _) (H.size _) (H.all1 _) ?_
 refine s_nil ?_
 refine c_seq ?_
 refine r_seq (by kernel_rfl) ?_
 refine s_val (v_loadA (m := 42) (by kernel_rfl) rfl (.app (.there (.there (.there .here)))) (H.size _)) ?_
 refine s_call (by kernel_rfl) (fun w hw => g_Good _ ps w (hpe9.known (at_known hw (fun _ hq => (List.mem_append_left _ hq))))) ?_
 refine s_val (v_not rfl) ?_
 refine s_nil ?_
 refine c_condTh rfl rfl (congrArg not hgc) ?_
 refine t_seq (k := 2) (by kernel_rfl) (by kernel_rfl) (fun w hw => hw.drew) (by kernel_rfl) ?_
 refine q_val (v_loadA (m := 42) (by kernel_rfl) rfl (.app (.there (.there (.there .here)))) (H.size _)) ?_
 refine q_call (by kernel_rfl) (fun w hw => g_failed _ w) ?_
 refine q_tail ?_
 refine s_storeA (m := 42) (by kernel_rfl) rfl rfl (.app (.there .here)) (H.size _) (H.size _) (H.all1 _) ?_
 refine s_storeA (m := 3) (by kernel_rfl) rfl rfl (.app .here) rfl rfl rep_all ?_
 refine s_nil ?_
 refine c_ret ?_
 refine n_ret ?_
 refine n_doneV2 (m := 42) (m' := 3) rfl (by decide) (by decide) rfl rfl (by kernel_rfl) (by kernel_rfl) (.app (.there .here)) (.app .here) (H.size _) rep_size (fun w1 hw => ?_)
 exact retV_own (h := ({ h with pa := pa9, pc := pc9 } : H)) (Ep := E9) (Ed := []) (hw.sub (List.Sublist.append (List.Sublist.refl _) (List.Sublist.cons _ (List.Sublist.cons _ (List.Sublist.cons _ (List.Sublist.cons _ (List.Sublist.refl _))))))) (fun _ _ h => h) hpe9.2.1 (fun _ hk => hpe9.known hk) (listE_nil _ _) (nx_bad hgc)
set_option maxHeartbeats 1000000 in
theorem g_NextGood (F : Addr → Value → Prop) (h : H) (ps : List PayS) (a : ActS) (hp : PaysIn F h.pa h.pl ps) (hb : h.pl * 48 ≤ 281474976710656) (hgc : goodB h.core ps = true) : GivesV Try.prog 22 [.agg h.cells, .agg a.cells] F ([]) (NextV 3 (nextM h.core ps a)) := by
 refine givesV_of Try.func22 rfl Try.ntmps22 (by simp) (fun w K => ?_)
 have h24 : h.pl ≤ 24 := by have := (good_pays hgc).2.2; have := hp.1; omega
 refine r_seq (by kernel_rfl) ?_
 refine s_box (v := .agg _) rfl (fun b2 => ?_)
 refine s_box (v := .agg _) rfl (fun b3 => ?_)
 refine s_alloc (z := .agg zeroH.cells) (by kernel_rfl) (fun b4 => ?_)
 refine s_alloc (z := .agg (repC 0 0 (.slice none 0 0))) (by kernel_rfl) (fun b5 => ?_)
 refine s_nil ?_
 refine r_seq (by kernel_rfl) ?_
 refine s_val (v_loadA (m := 42) (by kernel_rfl) rfl (.there (.there (.there .here))) (H.size _)) ?_
 refine s_callE (by kernel_rfl) (fun w hw => g_ownL h ps w (hp.at hw) h24) (fun v9 E9 hR9 => ?_)
 obtain ⟨pa9, pc9, rfl, hE9⟩ := hR9
 have hpe9 := hE9.pays hp.1
 refine s_storeA (m := 42) (by kernel_rfl) rfl rfl (.app (.there (.there (.there .here)))) (H.size _) (H.size _) (H.all1 _) ?_
 refine s_nil ?_
 refine c_seq ?_
 refine r_seq (by kernel_rfl) ?_
 refine s_val (v_loadA (m := 42) (by kernel_rfl) rfl (.app (.there (.there (.there .here)))) (H.size _)) ?_
 refine s_call (by kernel_rfl) (fun w hw => g_Good _ ps w (hpe9.known (at_known hw (fun _ hq => (List.mem_append_left _ hq))))) ?_
 refine s_val (v_not rfl) ?_
 refine s_nil ?_
 refine c_condFh rfl rfl (congrArg not hgc) ?_
 refine c_skip ?_
 refine n_then ?_
 refine r_seq (by kernel_rfl) ?_
 refine s_val (v_field (fo := 0) (by kernel_rfl) rfl) ?_
 refine s_val (v_load1 (v := .int .i64 _) (by kernel_rfl) rfl (.app (.there (.there .here))) rfl) ?_
 refine s_callG (by kernel_rfl) (stepF_mono _ _ _ _) (fun w hw => g_stepOf a.kind w) (fun F18 v18 hF18 hR18 => ?_)
 obtain ⟨fv, kn, rfl, hno, hyes⟩ := hR18
 refine s_val (v_move (v := .tuple _) rfl) ?_
 refine s_val (v_extract rfl rfl) ?_
 refine s_val (v_extract rfl rfl) ?_
 refine s_val (v_assign (v := _) rfl) ?_
 refine s_val (v_assign (v := .bool _) rfl) ?_
 refine s_nil ?_
 refine c_seq ?_
 refine r_seq (by kernel_rfl) ?_
 refine s_val (v_move (v := .bool _) rfl) ?_
 refine s_val (v_not rfl) ?_
 refine s_nil ?_
 refine c_condN rfl rfl (fun h22 => ?_) (fun h22 => ?_)
 · have hkn := hno h22
   refine t_seq (k := 2) (by kernel_rfl) (by kernel_rfl) (fun w hw => hw.drew) (by kernel_rfl) ?_
   refine q_val (v_loadA (m := 42) (by kernel_rfl) rfl (.app (.there (.there (.there .here)))) (H.size _)) ?_
   refine q_call (by kernel_rfl) (fun w hw => g_failed _ w) ?_
   refine q_tail ?_
   refine s_storeA (m := 42) (by kernel_rfl) rfl rfl (.app (.there .here)) (H.size _) (H.size _) (H.all1 _) ?_
   refine s_storeA (m := 3) (by kernel_rfl) rfl rfl (.app .here) rfl rfl rep_all ?_
   refine s_nil ?_
   refine c_ret ?_
   refine n_ret ?_
   refine n_doneV2 (m := 42) (m' := 3) rfl (by decide) (by decide) rfl rfl (by kernel_rfl) (by kernel_rfl) (.app (.there .here)) (.app .here) (H.size _) rep_size (fun w1 hw => ?_)
   exact retV_own (h := ({ h with pa := pa9, pc := pc9 } : H)) (Ep := E9) (Ed := []) (hw.sub (List.Sublist.append (List.Sublist.refl _) (List.Sublist.cons _ (List.Sublist.cons _ (List.Sublist.cons _ (List.Sublist.cons _ (List.Sublist.refl _))))))) hF18 hpe9.2.1 (fun _ hk => hpe9.known hk) (listE_nil _ _) (nx_other hgc hkn)
 obtain ⟨k, caps, rfl, hbody, hst⟩ := hyes h22
 refine c_skip ?_
 refine n_then ?_
 refine r_seq (by kernel_rfl) ?_
 refine s_val (v_move (v := _) rfl) ?_
 refine s_val (v_loadA (m := 42) (by kernel_rfl) rfl (.app (.there (.there (.there .here)))) (H.size _)) ?_
 refine s_val (v_loadA (m := 5) (by kernel_rfl) rfl (.app (.there (.there .here))) rfl) ?_
 refine s_callVC rfl hbody (hst F18 ({ h with pa := pa9, pc := pc9 } : H) ps a E9 (more_young _ _) rfl hE9 hp.1 hgc) (fun F28 v28 E28 hF28 hR28 => ?_)
 obtain ⟨h29, vd29, rfl, hc29, hlc29, hp29, hd29⟩ := hR28
 obtain ⟨a29, m29, c29, rfl⟩ := hd29.shape3
 refine s_val (v_extract rfl rfl) ?_
 refine s_val (v_extract rfl rfl) ?_
 refine s_storeA (m := 42) (by kernel_rfl) rfl rfl (.app (.there .here)) (H.size _) (H.size _) (H.all1 _) ?_
 refine s_storeA (m := 3) (by kernel_rfl) rfl rfl (.app .here) rfl rfl rep_all ?_
 refine s_nil ?_
 refine c_ret ?_
 refine n_doneV2 (m := 42) (m' := 3) rfl (by decide) (by decide) rfl rfl (by kernel_rfl) (by kernel_rfl) (.app (.there .here)) (.app .here) (H.size _) rep_size (fun w1 hw => ?_)
 exact retV_known (hw.sub (List.Sublist.append (List.Sublist.refl _) (List.Sublist.cons _ (List.Sublist.cons _ (List.Sublist.cons _ (List.Sublist.cons _ (List.Sublist.refl _))))))) (fun a v h => hF28 a v (hF18 a v h)) hp29 hlc29 hd29 (by rw [hc29]; rfl)
theorem g_Next (F : Addr → Value → Prop) (h : H) (ps : List PayS) (a : ActS) (hp : PaysIn F h.pa h.pl ps) (hb : h.pl * 48 ≤ 281474976710656) : GivesV Try.prog 22 [.agg h.cells, .agg a.cells] F [] (NextV 3 (nextM h.core ps a)) := by
 cases hg : goodB h.core ps
 · exact g_NextBad F h ps a hp hb hg
 · exact g_NextGood F h ps a hp hb hg
theorem theNext (h : H) (ps : List PayS) (a : ActS) (w : World) (hp : PaysIn (At w) h.pa h.pl ps) (hb : h.pl * 48 ≤ 281474976710656) (hlc : h.pl ≤ h.pc) : GivesF Try.prog 22 [.agg h.cells, .agg a.cells] w (NextF h ps (nextM h.core ps a)) :=
 (g_Next (At w) h ps a hp hb).toF (nextV_mono _ _) nextV_F
end Go.Proofs.Ytmkboljfbmlebac
namespace Go.Proofs.Ytmkboljfbmlebac
open Go.RowKit
set_option linter.unusedSimpArgs false
set_option linter.unusedVariables false
set_option maxRecDepth 100000
attribute [local irreducible] cC sC nC rC qw
set_option maxHeartbeats 1000000 in
theorem g_Replay (a0 : Option Addr) (c0 : Nat) (xs : List ActS) (w : World) (hx : ActsAt (At w) a0 xs) (hlx : xs.length ≤ 9223372036854775807) : GivesF Try.prog 20 [.slice a0 xs.length c0] w (ReplayF xs) := by
 refine givesF_of Try.func20 rfl Try.ntmps20 (by simp) ?_
 refine r_seq (by kernel_rfl) ?_
 refine s_alloc (z := .agg zeroH.cells) (by kernel_rfl) (fun b2 => ?_)
 refine s_nil ?_
 refine r_seq (by kernel_rfl) ?_
 refine s_call (by kernel_rfl) (fun w hw => g_New w) ?_
 refine s_alloc (z := .agg zeroH.cells) (by kernel_rfl) (fun b3 => ?_)
 refine s_storeA (m := 42) (by kernel_rfl) rfl rfl .here (H.size _) (H.size _) (H.all1 _) ?_
 refine s_nil ?_
 refine c_seq ?_
 refine r_seq (by kernel_rfl) ?_
 refine s_val (v_move (v := .slice _ _ _) rfl) ?_
 refine s_val (v_lenS (T := 22) (m := 5) (by kernel_rfl) rfl rfl) ?_
 refine s_val (v_move (v := .int .i64 _) rfl) ?_
 refine s_nil ?_
 refine c_block ?_
 refine c_loop (σ := RpG) (fun (t : RpG) f => ∃ g, (RpOk w xs t) ∧ f = (upd (upd (upd (upd (upd g 2 (.pointer (some ⟨b2, 0, none⟩))) 3 (.pointer (some ⟨b3, 0, none⟩))) 7 (.slice a0 xs.length c0)) 8 (I xs.length)) 9 (I t.k))) (fun (t : RpG) => Has w t.F [(b3, .cells t.h.cells 47), (b2, .cells zeroH.cells 47)]) (fun (t : RpG) => xs.length - t.k) ⟨At w, newM, 0⟩ ⟨_, rpOk_start, live5 rfl rfl rfl rfl rfl⟩ (fun w hw => hw) ?_
 rintro t _ ⟨g, ho, rfl⟩
 refine r_seq (by kernel_rfl) ?_
 refine s_val (v_lss (k := .i64) rfl rfl) ?_
 refine s_nil ?_
 refine c_seq ?_
 refine c_condR rfl rfl (fun h10 => ?_) (fun h10 => ?_)
 · have hkl : t.k = xs.length := by have := of_decide_eq_false h10; have := ho.k; omega
   refine c_exit ?_
   refine n_exit ?_
   refine n_exit ?_
   refine n_bhere ?_
   refine n_then ?_
   refine r_seq (by kernel_rfl) ?_
   refine s_val (v_loadA (m := 42) (by kernel_rfl) rfl .here (H.size _)) ?_
   refine s_storeA (m := 42) (by kernel_rfl) rfl rfl (.there .here) (H.size _) (H.size _) (H.all1 _) ?_
   refine s_nil ?_
   refine c_ret ?_
   refine n_doneCF (m := 42) rfl (by decide) rfl (by kernel_rfl) (.there .here) (H.size _) (fun w hw => ⟨t.h, rfl, ?_, ho.lc, ho.len, ?_⟩)
   · have := ho.core; rw [hkl, List.take_length] at this; exact this
   · have := ho.pays; rw [hkl, List.take_length] at this; exact this.mono (young_fresh hw)
 have hk0 := of_decide_eq_true h10
 obtain ⟨bx, ox, x, hax, hxk, hxc⟩ := hx.get (j := t.k) (by omega)
 have hpl24 := ho.len
 refine c_skip ?_
 refine n_then ?_
 refine c_seq ?_
 refine c_block ?_
 refine r_seq (by kernel_rfl) ?_
 refine s_val (v_idxS (size := 5) (k := .i64) (by kernel_rfl) (congrArg (fun a => Value.slice a xs.length c0) hax) rfl ⟨by omega, by omega⟩) ?_
 refine s_val (v_loadNo (cs := x.cells) (m := 5) (by kernel_rfl) rfl rfl (fun k v hv => ho.more _ _ (hxc k v hv))) ?_
 refine s_alloc (z := zeroOf Try.prog 24) (by kernel_rfl) (fun b5 => ?_)
 refine s_storeA (m := 5) (by kernel_rfl) rfl rfl .here (by kernel_rfl) rfl (ActS.all1 _) ?_
 refine s_nil ?_
 refine r_list (by kernel_rfl) ?_
 refine s_val (v_loadA (m := 42) (by kernel_rfl) rfl (.there .here) (H.size _)) ?_
 refine s_val (v_loadA (m := 5) (by kernel_rfl) rfl .here rfl) ?_
 refine s_callG (by kernel_rfl) (nextF_mono _ _ _) (fun w hw => theNext t.h (replayM (xs.take t.k)).2 x w ((ho.pays.mono (more_young _ _)).at hw) (by omega) ho.lc) (fun F16 v16 hF16 hR16 => ?_)
 obtain ⟨v17, v18, rfl, ⟨h17, rfl, hc17, hlc17, hp17⟩, a18, c18, rfl, _⟩ := hR16
 refine s_val (v_move (v := .tuple _) rfl) ?_
 refine s_val (v_extract rfl rfl) ?_
 refine s_val (v_extract rfl rfl) ?_
 refine s_storeA (m := 42) (by kernel_rfl) rfl rfl (.there .here) (H.size _) (H.size _) (H.all1 _) ?_
 refine s_end ?_
 refine n_bnormal ?_
 refine n_then ?_
 refine r_list (by kernel_rfl) ?_
 refine s_val (v_add rfl rfl (by omega)) ?_
 refine s_val (v_move (v := .int .i64 _) rfl) ?_
 refine s_end ?_
 refine n_round (s := t) ⟨F16, h17, t.k + 1⟩ ⟨_, ho.step hxk hF16 rfl hc17 hlc17 hp17, live5 rfl rfl rfl rfl rfl⟩ (fun _ hw => hw.tail) (by have := ho.k; dsimp only; omega)
end Go.Proofs.Ytmkboljfbmlebac
namespace Go.Proofs.Ytmkboljfbmlebac
open Go.RowKit
set_option linter.unusedSimpArgs false
set_option linter.unusedVariables false
set_option maxRecDepth 100000
attribute [local irreducible] cC sC nC rC qw
theorem g_list (a : ActS) (w : World) : Gives Try.prog 29 [.agg a.cells] w (.agg a.cells) := by
 refine gives_of Try.func29 rfl Try.ntmps29 (by simp) ?_
 refine r_seq (by kernel_rfl) ?_
 refine s_box (v := .agg _) rfl (fun b1 => ?_)
 refine s_alloc (z := .agg zeroA.cells) (by kernel_rfl) (fun b2 => ?_)
 refine s_nil ?_
 refine r_seq (by kernel_rfl) ?_
 refine s_val (v_field (fo := 0) (by kernel_rfl) rfl) ?_
 refine s_val (v_load1 (v := .int .i64 _) (by kernel_rfl) rfl (.there .here) rfl) ?_
 refine s_val (v_field (fo := 1) (by kernel_rfl) rfl) ?_
 refine s_val (v_load1 (v := .int .i64 _) (by kernel_rfl) rfl (.there .here) rfl) ?_
 refine s_val (v_field (fo := 2) (by kernel_rfl) rfl) ?_
 refine s_val (v_load1 (v := .int .i64 _) (by kernel_rfl) rfl (.there .here) rfl) ?_
 refine s_val (v_field (fo := 3) (by kernel_rfl) rfl) ?_
 refine s_val (v_load1 (v := .int .i64 _) (by kernel_rfl) rfl (.there .here) rfl) ?_
 refine s_val (v_field (fo := 4) (by kernel_rfl) rfl) ?_
 refine s_val (v_load1 (v := .int .i64 _) (by kernel_rfl) rfl (.there .here) rfl) ?_
 refine s_val (v_build (vs := [(0, .int .i64 _), (1, .int .i64 _), (2, .int .i64 _), (3, .int .i64 _), (4, .int .i64 _)]) (cs := a.cells) rfl (by kernel_rfl)) ?_
 refine s_storeA (m := 5) (by kernel_rfl) rfl rfl .here rfl rfl (ActS.all1 _) ?_
 refine s_nil ?_
 refine c_ret ?_
 refine n_doneC (m := 5) rfl (by decide) rfl (by kernel_rfl) .here rfl (congrArg Value.agg ?_)
 rfl
theorem g_Good4 (a : ActS) (w : World) : Gives Try.prog 28 [.agg a.cells] w (.bool (noted a)) := by
 refine gives_of Try.func28 rfl Try.ntmps28 (by simp) ?_
 refine r_seq (by kernel_rfl) ?_
 refine s_box (v := .agg _) rfl (fun b1 => ?_)
 refine s_val (v_assign (v := .bool _) rfl) ?_
 refine s_nil ?_
 refine c_seq ?_
 refine r_seq (by kernel_rfl) ?_
 refine s_val (v_loadA (m := 5) (by kernel_rfl) rfl .here rfl) ?_
 refine s_call (by kernel_rfl) (fun w hw => g_list _ w) ?_
 refine s_val (v_move (v := .int .i64 _) rfl) ?_
 refine s_nil ?_
 refine c_block ?_
 refine c_rounds 6 ?_
 refine r_succ ?_
 refine r_seq (by kernel_rfl) ?_
 refine s_val (v_lss (k := .i64) rfl rfl) ?_
 refine s_nil ?_
 refine c_seq ?_
 refine c_condTh rfl rfl rfl ?_
 refine c_skip ?_
 refine n_then ?_
 refine c_seq ?_
 refine c_block ?_
 refine r_seq (by kernel_rfl) ?_
 refine s_val (v_indexS (len := 5) (t := 3) (m := 1) (k := .i64) (v := I a.kind) (by kernel_rfl) (by kernel_rfl) rfl rfl (by decide) rfl) ?_
 refine s_val (v_assign (v := .int .i64 _) rfl) ?_
 refine s_nil ?_
 refine r_seq (by kernel_rfl) ?_
 refine s_val (v_move (v := .int .i64 _) rfl) ?_
 refine s_val (v_lss (k := .i64) rfl rfl) ?_
 refine s_val (v_move (v := .bool _) rfl) ?_
 refine s_split (s := 12) rfl (fun h12 => ?_) (fun h12 => ?_)
 · refine s_pass rfl rfl h12 ?_
   refine s_pass rfl rfl h12 ?_
   refine s_val (v_pickT (v := .bool _) rfl h12 rfl) ?_
   refine s_nil ?_
   refine c_condTh rfl rfl rfl ?_
   refine r_seq (by kernel_rfl) ?_
   refine s_val (v_assign (v := .bool _) rfl) ?_
   refine s_nil ?_
   refine c_ret ?_
   refine n_bret ?_
   refine n_ret ?_
   refine n_ret ?_
   refine n_bret ?_
   refine n_ret ?_
   refine n_done rfl (by decide) (Eq.trans (b := .bool _) rfl (congrArg Value.bool ?_))
   symm
   rw [Bool.eq_false_iff]
   intro hno
   obtain ⟨q1, q2, q3, q4, q5⟩ := noted_all hno
   rw [notedI_iff] at q1 q2 q3 q4 q5
   simp only [decide_eq_true_eq, decide_eq_false_iff_not] at *
   omega
 refine s_want rfl rfl h12 ?_
 refine s_val (v_move (v := .int .i64 _) rfl) ?_
 refine s_want rfl rfl h12 ?_
 refine s_val (v_gtr (k := .i64) rfl rfl) ?_
 refine s_val (v_pickF (v := .bool _) rfl h12 rfl) ?_
 refine s_nil ?_
 refine c_cond rfl rfl (fun h15 => ?_) (fun h15 => ?_)
 · refine r_seq (by kernel_rfl) ?_
   refine s_val (v_assign (v := .bool _) rfl) ?_
   refine s_nil ?_
   refine c_ret ?_
   refine n_bret ?_
   refine n_ret ?_
   refine n_ret ?_
   refine n_bret ?_
   refine n_ret ?_
   refine n_done rfl (by decide) (Eq.trans (b := .bool _) rfl (congrArg Value.bool ?_))
   symm
   rw [Bool.eq_false_iff]
   intro hno
   obtain ⟨q1, q2, q3, q4, q5⟩ := noted_all hno
   rw [notedI_iff] at q1 q2 q3 q4 q5
   simp only [decide_eq_true_eq, decide_eq_false_iff_not] at *
   omega
 refine c_skip ?_
 refine n_bnormal ?_
 refine n_then ?_
 refine r_list (by kernel_rfl) ?_
 refine s_val (v_addL (c := 1) rfl rfl (by decide) (by decide)) ?_
 refine s_val (v_move (v := .int .i64 _) rfl) ?_
 refine s_end ?_
 refine n_thenR ?_
 refine r_succ ?_
 refine r_seq (by kernel_rfl) ?_
 refine s_val (v_lss (k := .i64) rfl rfl) ?_
 refine s_nil ?_
 refine c_seq ?_
 refine c_condTh rfl rfl rfl ?_
 refine c_skip ?_
 refine n_then ?_
 refine c_seq ?_
 refine c_block ?_
 refine r_seq (by kernel_rfl) ?_
 refine s_val (v_indexS (len := 5) (t := 3) (m := 1) (k := .i64) (v := I a.a) (by kernel_rfl) (by kernel_rfl) rfl rfl (by decide) rfl) ?_
 refine s_val (v_assign (v := .int .i64 _) rfl) ?_
 refine s_nil ?_
 refine r_seq (by kernel_rfl) ?_
 refine s_val (v_move (v := .int .i64 _) rfl) ?_
 refine s_val (v_lss (k := .i64) rfl rfl) ?_
 refine s_val (v_move (v := .bool _) rfl) ?_
 refine s_split (s := 12) rfl (fun h12 => ?_) (fun h12 => ?_)
 · refine s_pass rfl rfl h12 ?_
   refine s_pass rfl rfl h12 ?_
   refine s_val (v_pickT (v := .bool _) rfl h12 rfl) ?_
   refine s_nil ?_
   refine c_condTh rfl rfl rfl ?_
   refine r_seq (by kernel_rfl) ?_
   refine s_val (v_assign (v := .bool _) rfl) ?_
   refine s_nil ?_
   refine c_ret ?_
   refine n_bret ?_
   refine n_ret ?_
   refine n_ret ?_
   refine n_bret ?_
   refine n_ret ?_
   refine n_done rfl (by decide) (Eq.trans (b := .bool _) rfl (congrArg Value.bool ?_))
   symm
   rw [Bool.eq_false_iff]
   intro hno
   obtain ⟨q1, q2, q3, q4, q5⟩ := noted_all hno
   rw [notedI_iff] at q1 q2 q3 q4 q5
   simp only [decide_eq_true_eq, decide_eq_false_iff_not] at *
   omega
 refine s_want rfl rfl h12 ?_
 refine s_val (v_move (v := .int .i64 _) rfl) ?_
 refine s_want rfl rfl h12 ?_
 refine s_val (v_gtr (k := .i64) rfl rfl) ?_
 refine s_val (v_pickF (v := .bool _) rfl h12 rfl) ?_
 refine s_nil ?_
 refine c_cond rfl rfl (fun h15 => ?_) (fun h15 => ?_)
 · refine r_seq (by kernel_rfl) ?_
   refine s_val (v_assign (v := .bool _) rfl) ?_
   refine s_nil ?_
   refine c_ret ?_
   refine n_bret ?_
   refine n_ret ?_
   refine n_ret ?_
   refine n_bret ?_
   refine n_ret ?_
   refine n_done rfl (by decide) (Eq.trans (b := .bool _) rfl (congrArg Value.bool ?_))
   symm
   rw [Bool.eq_false_iff]
   intro hno
   obtain ⟨q1, q2, q3, q4, q5⟩ := noted_all hno
   rw [notedI_iff] at q1 q2 q3 q4 q5
   simp only [decide_eq_true_eq, decide_eq_false_iff_not] at *
   omega
 refine c_skip ?_
 refine n_bnormal ?_
 refine n_then ?_
 refine r_list (by kernel_rfl) ?_
 refine s_val (v_addL (c := 2) rfl rfl (by decide) (by decide)) ?_
 refine s_val (v_move (v := .int .i64 _) rfl) ?_
 refine s_end ?_
 refine n_thenR ?_
 refine r_succ ?_
 refine r_seq (by kernel_rfl) ?_
 refine s_val (v_lss (k := .i64) rfl rfl) ?_
 refine s_nil ?_
 refine c_seq ?_
 refine c_condTh rfl rfl rfl ?_
 refine c_skip ?_
 refine n_then ?_
 refine c_seq ?_
 refine c_block ?_
 refine r_seq (by kernel_rfl) ?_
 refine s_val (v_indexS (len := 5) (t := 3) (m := 1) (k := .i64) (v := I a.b) (by kernel_rfl) (by kernel_rfl) rfl rfl (by decide) rfl) ?_
 refine s_val (v_assign (v := .int .i64 _) rfl) ?_
 refine s_nil ?_
 refine r_seq (by kernel_rfl) ?_
 refine s_val (v_move (v := .int .i64 _) rfl) ?_
 refine s_val (v_lss (k := .i64) rfl rfl) ?_
 refine s_val (v_move (v := .bool _) rfl) ?_
 refine s_split (s := 12) rfl (fun h12 => ?_) (fun h12 => ?_)
 · refine s_pass rfl rfl h12 ?_
   refine s_pass rfl rfl h12 ?_
   refine s_val (v_pickT (v := .bool _) rfl h12 rfl) ?_
   refine s_nil ?_
   refine c_condTh rfl rfl rfl ?_
   refine r_seq (by kernel_rfl) ?_
   refine s_val (v_assign (v := .bool _) rfl) ?_
   refine s_nil ?_
   refine c_ret ?_
   refine n_bret ?_
   refine n_ret ?_
   refine n_ret ?_
   refine n_bret ?_
   refine n_ret ?_
   refine n_done rfl (by decide) (Eq.trans (b := .bool _) rfl (congrArg Value.bool ?_))
   symm
   rw [Bool.eq_false_iff]
   intro hno
   obtain ⟨q1, q2, q3, q4, q5⟩ := noted_all hno
   rw [notedI_iff] at q1 q2 q3 q4 q5
   simp only [decide_eq_true_eq, decide_eq_false_iff_not] at *
   omega
 refine s_want rfl rfl h12 ?_
 refine s_val (v_move (v := .int .i64 _) rfl) ?_
 refine s_want rfl rfl h12 ?_
 refine s_val (v_gtr (k := .i64) rfl rfl) ?_
 refine s_val (v_pickF (v := .bool _) rfl h12 rfl) ?_
 refine s_nil ?_
 refine c_cond rfl rfl (fun h15 => ?_) (fun h15 => ?_)
 · refine r_seq (by kernel_rfl) ?_
   refine s_val (v_assign (v := .bool _) rfl) ?_
   refine s_nil ?_
   refine c_ret ?_
   refine n_bret ?_
   refine n_ret ?_
   refine n_ret ?_
   refine n_bret ?_
   refine n_ret ?_
   refine n_done rfl (by decide) (Eq.trans (b := .bool _) rfl (congrArg Value.bool ?_))
   symm
   rw [Bool.eq_false_iff]
   intro hno
   obtain ⟨q1, q2, q3, q4, q5⟩ := noted_all hno
   rw [notedI_iff] at q1 q2 q3 q4 q5
   simp only [decide_eq_true_eq, decide_eq_false_iff_not] at *
   omega
 refine c_skip ?_
 refine n_bnormal ?_
 refine n_then ?_
 refine r_list (by kernel_rfl) ?_
 refine s_val (v_addL (c := 3) rfl rfl (by decide) (by decide)) ?_
 refine s_val (v_move (v := .int .i64 _) rfl) ?_
 refine s_end ?_
 refine n_thenR ?_
 refine r_succ ?_
 refine r_seq (by kernel_rfl) ?_
 refine s_val (v_lss (k := .i64) rfl rfl) ?_
 refine s_nil ?_
 refine c_seq ?_
 refine c_condTh rfl rfl rfl ?_
 refine c_skip ?_
 refine n_then ?_
 refine c_seq ?_
 refine c_block ?_
 refine r_seq (by kernel_rfl) ?_
 refine s_val (v_indexS (len := 5) (t := 3) (m := 1) (k := .i64) (v := I a.c) (by kernel_rfl) (by kernel_rfl) rfl rfl (by decide) rfl) ?_
 refine s_val (v_assign (v := .int .i64 _) rfl) ?_
 refine s_nil ?_
 refine r_seq (by kernel_rfl) ?_
 refine s_val (v_move (v := .int .i64 _) rfl) ?_
 refine s_val (v_lss (k := .i64) rfl rfl) ?_
 refine s_val (v_move (v := .bool _) rfl) ?_
 refine s_split (s := 12) rfl (fun h12 => ?_) (fun h12 => ?_)
 · refine s_pass rfl rfl h12 ?_
   refine s_pass rfl rfl h12 ?_
   refine s_val (v_pickT (v := .bool _) rfl h12 rfl) ?_
   refine s_nil ?_
   refine c_condTh rfl rfl rfl ?_
   refine r_seq (by kernel_rfl) ?_
   refine s_val (v_assign (v := .bool _) rfl) ?_
   refine s_nil ?_
   refine c_ret ?_
   refine n_bret ?_
   refine n_ret ?_
   refine n_ret ?_
   refine n_bret ?_
   refine n_ret ?_
   refine n_done rfl (by decide) (Eq.trans (b := .bool _) rfl (congrArg Value.bool ?_))
   symm
   rw [Bool.eq_false_iff]
   intro hno
   obtain ⟨q1, q2, q3, q4, q5⟩ := noted_all hno
   rw [notedI_iff] at q1 q2 q3 q4 q5
   simp only [decide_eq_true_eq, decide_eq_false_iff_not] at *
   omega
 refine s_want rfl rfl h12 ?_
 refine s_val (v_move (v := .int .i64 _) rfl) ?_
 refine s_want rfl rfl h12 ?_
 refine s_val (v_gtr (k := .i64) rfl rfl) ?_
 refine s_val (v_pickF (v := .bool _) rfl h12 rfl) ?_
 refine s_nil ?_
 refine c_cond rfl rfl (fun h15 => ?_) (fun h15 => ?_)
 · refine r_seq (by kernel_rfl) ?_
   refine s_val (v_assign (v := .bool _) rfl) ?_
   refine s_nil ?_
   refine c_ret ?_
   refine n_bret ?_
   refine n_ret ?_
   refine n_ret ?_
   refine n_bret ?_
   refine n_ret ?_
   refine n_done rfl (by decide) (Eq.trans (b := .bool _) rfl (congrArg Value.bool ?_))
   symm
   rw [Bool.eq_false_iff]
   intro hno
   obtain ⟨q1, q2, q3, q4, q5⟩ := noted_all hno
   rw [notedI_iff] at q1 q2 q3 q4 q5
   simp only [decide_eq_true_eq, decide_eq_false_iff_not] at *
   omega
 refine c_skip ?_
 refine n_bnormal ?_
 refine n_then ?_
 refine r_list (by kernel_rfl) ?_
 refine s_val (v_addL (c := 4) rfl rfl (by decide) (by decide)) ?_
 refine s_val (v_move (v := .int .i64 _) rfl) ?_
 refine s_end ?_
 refine n_thenR ?_
 refine r_succ ?_
 refine r_seq (by kernel_rfl) ?_
 refine s_val (v_lss (k := .i64) rfl rfl) ?_
 refine s_nil ?_
 refine c_seq ?_
 refine c_condTh rfl rfl rfl ?_
 refine c_skip ?_
 refine n_then ?_
 refine c_seq ?_
 refine c_block ?_
 refine r_seq (by kernel_rfl) ?_
 refine s_val (v_indexS (len := 5) (t := 3) (m := 1) (k := .i64) (v := I a.n) (by kernel_rfl) (by kernel_rfl) rfl rfl (by decide) rfl) ?_
 refine s_val (v_assign (v := .int .i64 _) rfl) ?_
 refine s_nil ?_
 refine r_seq (by kernel_rfl) ?_
 refine s_val (v_move (v := .int .i64 _) rfl) ?_
 refine s_val (v_lss (k := .i64) rfl rfl) ?_
 refine s_val (v_move (v := .bool _) rfl) ?_
 refine s_split (s := 12) rfl (fun h12 => ?_) (fun h12 => ?_)
 · refine s_pass rfl rfl h12 ?_
   refine s_pass rfl rfl h12 ?_
   refine s_val (v_pickT (v := .bool _) rfl h12 rfl) ?_
   refine s_nil ?_
   refine c_condTh rfl rfl rfl ?_
   refine r_seq (by kernel_rfl) ?_
   refine s_val (v_assign (v := .bool _) rfl) ?_
   refine s_nil ?_
   refine c_ret ?_
   refine n_bret ?_
   refine n_ret ?_
   refine n_ret ?_
   refine n_bret ?_
   refine n_ret ?_
   refine n_done rfl (by decide) (Eq.trans (b := .bool _) rfl (congrArg Value.bool ?_))
   symm
   rw [Bool.eq_false_iff]
   intro hno
   obtain ⟨q1, q2, q3, q4, q5⟩ := noted_all hno
   rw [notedI_iff] at q1 q2 q3 q4 q5
   simp only [decide_eq_true_eq, decide_eq_false_iff_not] at *
   omega
 refine s_want rfl rfl h12 ?_
 refine s_val (v_move (v := .int .i64 _) rfl) ?_
 refine s_want rfl rfl h12 ?_
 refine s_val (v_gtr (k := .i64) rfl rfl) ?_
 refine s_val (v_pickF (v := .bool _) rfl h12 rfl) ?_
 refine s_nil ?_
 refine c_cond rfl rfl (fun h15 => ?_) (fun h15 => ?_)
 · refine r_seq (by kernel_rfl) ?_
   refine s_val (v_assign (v := .bool _) rfl) ?_
   refine s_nil ?_
   refine c_ret ?_
   refine n_bret ?_
   refine n_ret ?_
   refine n_ret ?_
   refine n_bret ?_
   refine n_ret ?_
   refine n_done rfl (by decide) (Eq.trans (b := .bool _) rfl (congrArg Value.bool ?_))
   symm
   rw [Bool.eq_false_iff]
   intro hno
   obtain ⟨q1, q2, q3, q4, q5⟩ := noted_all hno
   rw [notedI_iff] at q1 q2 q3 q4 q5
   simp only [decide_eq_true_eq, decide_eq_false_iff_not] at *
   omega
 refine c_skip ?_
 refine n_bnormal ?_
 refine n_then ?_
 refine r_list (by kernel_rfl) ?_
 refine s_val (v_addL (c := 5) rfl rfl (by decide) (by decide)) ?_
 refine s_val (v_move (v := .int .i64 _) rfl) ?_
 refine s_end ?_
 refine n_thenR ?_
 refine r_succ ?_
 refine r_seq (by kernel_rfl) ?_
 refine s_val (v_lss (k := .i64) rfl rfl) ?_
 refine s_nil ?_
 refine c_seq ?_
 refine c_condFh rfl rfl rfl ?_
 refine c_exit ?_
 refine n_exit ?_
 refine n_exit ?_
 refine n_bhere ?_
 refine n_then ?_
 refine r_seq (by kernel_rfl) ?_
 refine s_val (v_assign (v := .bool _) rfl) ?_
 refine s_nil ?_
 refine c_ret ?_
 refine n_done rfl (by decide) (Eq.trans (b := .bool _) rfl (congrArg Value.bool ?_))
 symm
 simp only [noted, notedI, Bool.and_eq_true, decide_eq_true_eq]
 simp only [decide_eq_true_eq, decide_eq_false_iff_not] at *
 omega
theorem g_fold (n : Int) (w : World) (hn : notedI n = true) : Gives Try.prog 50 [I n] w (I ((zig n : Nat) : Int)) := by
 have hn2 := notedI_iff.1 hn
 refine gives_of Try.func50 rfl Try.ntmps50 (by simp) ?_
 refine r_seq (by kernel_rfl) ?_
 refine s_val (v_assign (v := .int .i64 _) rfl) ?_
 refine s_nil ?_
 refine c_seq ?_
 refine r_seq (by kernel_rfl) ?_
 refine s_val (v_move (v := .int .i64 _) rfl) ?_
 refine s_val (v_lss (k := .i64) rfl rfl) ?_
 refine s_nil ?_
 refine c_cond rfl rfl (fun h4 => ?_) (fun h4 => ?_)
 · refine r_seq (by kernel_rfl) ?_
   refine s_val (v_move (v := .int .i64 _) rfl) ?_
   refine s_val (v_mul rfl rfl (by omega)) ?_
   refine s_val (v_sub rfl rfl (by omega)) ?_
   refine s_val (v_assign (v := .int .i64 _) rfl) ?_
   refine s_nil ?_
   refine c_ret ?_
   refine n_ret ?_
   refine n_done rfl (by decide) (Eq.trans (b := .int .i64 _) rfl (congrArg (Value.int .i64) ?_))
   exact zig_neg (of_decide_eq_true h4)
 refine c_skip ?_
 refine n_then ?_
 refine r_seq (by kernel_rfl) ?_
 refine s_val (v_move (v := .int .i64 _) rfl) ?_
 refine s_val (v_mul rfl rfl (by omega)) ?_
 refine s_val (v_assign (v := .int .i64 _) rfl) ?_
 refine s_nil ?_
 refine c_ret ?_
 refine n_done rfl (by decide) (Eq.trans (b := .int .i64 _) rfl (congrArg (Value.int .i64) ?_))
 exact zig_pos (of_decide_eq_false h4)
theorem g_unfold (u : Nat) (w : World) (hu : u ≤ 1125899906842624) : Gives Try.prog 60 [I (u : Nat)] w (I (zag u)) := by
 refine gives_of Try.func60 rfl Try.ntmps60 (by simp) ?_
 refine r_seq (by kernel_rfl) ?_
 refine s_val (v_assign (v := .int .i64 _) rfl) ?_
 refine s_nil ?_
 refine c_seq ?_
 refine r_seq (by kernel_rfl) ?_
 refine s_val (v_move (v := .int .i64 _) rfl) ?_
 refine s_val (v_rem (c := ((u % 2 : Nat) : Int)) rfl rfl (by decide) (tmod_nat _ 2)) ?_
 refine s_val (v_neq (k := .i64) rfl rfl) ?_
 refine s_nil ?_
 refine c_condNR rfl rfl (fun h5 => ?_) (fun h5 => ?_)
 · refine c_skip ?_
   refine n_then ?_
   refine r_seq (by kernel_rfl) ?_
   refine s_val (v_move (v := .int .i64 _) rfl) ?_
   refine s_val (v_quo (c := ((u / 2 : Nat) : Int)) rfl rfl (by decide) (by rw [show ((u : Nat) : Int).tdiv 2 = ((u / 2 : Nat) : Int) from tdiv_nat u 2]; exact wr_in (by omega) (by omega))) ?_
   refine s_val (v_assign (v := .int .i64 _) rfl) ?_
   refine s_nil ?_
   refine c_ret ?_
   refine n_done rfl (by decide) (Eq.trans (b := .int .i64 _) rfl (congrArg (Value.int .i64) ?_))
   exact zag_even5 (of_decide_eq_true h5)
 refine r_seq (by kernel_rfl) ?_
 refine s_val (v_move (v := .int .i64 _) rfl) ?_
 refine s_val (v_add rfl rfl (by omega)) ?_
 refine s_val (v_neg rfl (by omega)) ?_
 refine s_val (v_quo (c := zag u) rfl rfl (by decide) (by rw [zag_odd5 (of_decide_eq_false h5)]; have := zag_bound u; exact wr_in (by omega) (by omega))) ?_
 refine s_val (v_assign (v := .int .i64 _) rfl) ?_
 refine s_nil ?_
 refine c_ret ?_
 refine n_ret ?_
 refine n_done rfl (by decide) (Eq.trans (b := .int .i64 _) rfl (congrArg (Value.int .i64) ?_))
 rfl
theorem g_checksum (a0 : Option Addr) (c0 : Nat) (l : List Nat) (w : World) (hx : BytesAt (At w) a0 l) (hb : Byt l) (hl : l.length ≤ 1000) : Gives Try.prog 31 [.slice a0 l.length c0] w (.tuple #[U8 (((sumOf l).1 % 251 : Nat) : Int), U8 (((sumOf l).2 % 251 : Nat) : Int)]) := by
 refine gives_of Try.func31 rfl Try.ntmps31 (by simp) ?_
 refine r_seq (by kernel_rfl) ?_
 refine s_val (v_assign (v := .int .u8 _) rfl) ?_
 refine s_val (v_assign (v := .int .u8 _) rfl) ?_
 refine s_nil ?_
 refine r_seq (by kernel_rfl) ?_
 refine s_val (v_assign (v := .int .i64 _) rfl) ?_
 refine s_val (v_assign (v := .int .i64 _) rfl) ?_
 refine s_nil ?_
 refine c_seq ?_
 refine r_seq (by kernel_rfl) ?_
 refine s_val (v_move (v := .slice _ _ _) rfl) ?_
 refine s_val (v_lenS (T := 74) (m := 1) (by kernel_rfl) rfl rfl) ?_
 refine s_val (v_move (v := .int .i64 _) rfl) ?_
 refine s_nil ?_
 refine c_block ?_
 refine c_loop (σ := Nat) (fun (k : Nat) f => ∃ g, (k ≤ l.length) ∧ f = (upd (upd (upd (upd (upd g 4 (I (sumOf (l.take k)).1)) 5 (I (sumOf (l.take k)).2)) 8 (.slice a0 l.length c0)) 9 (I l.length)) 10 (I k))) (fun (k : Nat) => Has w (At w) []) (fun (k : Nat) => l.length - k) 0 ⟨_, Nat.zero_le _, live5 rfl rfl rfl rfl rfl⟩ (fun w hw => hw) ?_
 rintro k _ ⟨g, hkl0, rfl⟩
 refine r_seq (by kernel_rfl) ?_
 refine s_val (v_lss (k := .i64) rfl rfl) ?_
 refine s_nil ?_
 refine c_seq ?_
 refine c_condR rfl rfl (fun h11 => ?_) (fun h11 => ?_)
 · have hkl : k = l.length := by have := of_decide_eq_false h11; omega
   subst hkl
   rw [List.take_of_length_le (Nat.le_refl _)]
   refine c_exit ?_
   refine n_exit ?_
   refine n_exit ?_
   refine n_bhere ?_
   refine n_then ?_
   refine r_seq (by kernel_rfl) ?_
   refine s_val (v_move (v := .int .i64 _) rfl) ?_
   refine s_val (v_rem (c := (((sumOf l).1 % 251 : Nat) : Int)) rfl rfl (by decide) (tmod_nat _ 251)) ?_
   refine s_val (v_toU8 (by kernel_rfl) rfl ⟨by omega, by omega⟩) ?_
   refine s_val (v_move (v := .int .i64 _) rfl) ?_
   refine s_val (v_rem (c := (((sumOf l).2 % 251 : Nat) : Int)) rfl rfl (by decide) (tmod_nat _ 251)) ?_
   refine s_val (v_toU8 (by kernel_rfl) rfl ⟨by omega, by omega⟩) ?_
   refine s_val (v_assign (v := .int .u8 _) rfl) ?_
   refine s_val (v_assign (v := .int .u8 _) rfl) ?_
   refine s_nil ?_
   refine c_ret ?_
   exact n_doneT rfl (by decide) (by decide) rfl
 have hk0 := of_decide_eq_true h11
 obtain ⟨b, o, m, ha0, hm, hcm⟩ := hx.get (j := k) (by omega)
 have hm256 := hb m (List.mem_of_getElem? hm)
 have hsb := sum_bound hb k
 have hkk : k * (1 + 255 * k) ≤ 1000 * (1 + 255 * 1000) := Nat.mul_le_mul (by omega) (by omega)
 have hss := sum_step hm
 refine c_skip ?_
 refine n_then ?_
 refine c_seq ?_
 refine c_block ?_
 refine r_seq (by kernel_rfl) ?_
 refine s_val (v_idxS (size := 1) (k := .i64) (by kernel_rfl) (congrArg (fun a => Value.slice a l.length c0) ha0) rfl ⟨by omega, by omega⟩) ?_
 refine s_val (v_load1o (v := U8 m) (by kernel_rfl) rfl (by simpa using hcm)) ?_
 refine s_val (v_assign (v := .int .u8 _) rfl) ?_
 refine s_nil ?_
 refine r_seq (by kernel_rfl) ?_
 refine s_val (v_move (v := .int .i64 _) rfl) ?_
 refine s_val (v_move (v := .int .u8 _) rfl) ?_
 refine s_val (v_ofU8 (by kernel_rfl) rfl ⟨by omega, by omega⟩) ?_
 refine s_val (v_add rfl rfl (by omega)) ?_
 refine s_val (v_assign (v := .int .i64 _) rfl) ?_
 refine s_nil ?_
 refine r_list (by kernel_rfl) ?_
 refine s_val (v_move (v := .int .i64 _) rfl) ?_
 refine s_val (v_move (v := .int .i64 _) rfl) ?_
 refine s_val (v_add rfl rfl (by omega)) ?_
 refine s_val (v_assign (v := .int .i64 _) rfl) ?_
 refine s_end ?_
 refine n_bnormal ?_
 refine n_then ?_
 refine r_list (by kernel_rfl) ?_
 refine s_val (v_add rfl rfl (by omega)) ?_
 refine s_val (v_move (v := .int .i64 _) rfl) ?_
 refine s_end ?_
 refine n_round (k + 1) ⟨_, (by omega), live5 (congrArg I (by rw [hss]; rfl)) (congrArg I (by rw [hss]; push_cast; rfl)) rfl rfl rfl⟩ (fun _ hw => hw) (by omega)
theorem g_HasPrefix0 (l f : List Nat) (w : World) (hl : Byt l) (hf : Byt f) : Gives Try.prog 52 [S l, S f] w (.bool (begins l f)) := by
 refine gives_of Try.func52 rfl Try.ntmps52 (by simp) ?_
 refine r_seq (by kernel_rfl) ?_
 refine s_val (v_assign (v := .bool _) rfl) ?_
 refine s_nil ?_
 refine r_seq (by kernel_rfl) ?_
 refine s_val (v_move (v := S _) rfl) ?_
 refine s_val (v_strLen (by kernel_rfl) rfl rfl) ?_
 refine s_val (v_move (v := S _) rfl) ?_
 refine s_val (v_strLen (by kernel_rfl) rfl rfl) ?_
 refine s_val (v_geq (k := .i64) rfl rfl) ?_
 refine s_val (v_move (v := .bool _) rfl) ?_
 refine s_splitR (s := 10) rfl (fun h10 => ?_) (fun h10 => ?_)
 · refine s_pass rfl rfl h10 ?_
   refine s_pass rfl rfl h10 ?_
   refine s_pass rfl rfl h10 ?_
   refine s_pass rfl rfl h10 ?_
   refine s_pass rfl rfl h10 ?_
   refine s_pass rfl rfl h10 ?_
   refine s_val (v_pickF (v := .bool _) rfl h10 rfl) ?_
   refine s_val (v_assign (v := .bool _) rfl) ?_
   refine s_nil ?_
   refine c_ret ?_
   refine n_done rfl (by decide) (Eq.trans (b := .bool _) rfl (congrArg Value.bool ?_))
   exact (begins_short (by have := of_decide_eq_false h10; omega)).symm
 refine s_want rfl rfl h10 ?_
 refine s_val (v_move (v := S _) rfl) ?_
 refine s_want rfl rfl h10 ?_
 refine s_val (v_move (v := S _) rfl) ?_
 refine s_want rfl rfl h10 ?_
 refine s_val (v_strLen (by kernel_rfl) rfl rfl) ?_
 refine s_want rfl rfl h10 ?_
 refine s_val (v_strHi (by kernel_rfl) rfl rfl ⟨by omega, by have := of_decide_eq_true h10; omega⟩) ?_
 refine s_want rfl rfl h10 ?_
 refine s_val (v_move (v := S _) rfl) ?_
 refine s_want rfl rfl h10 ?_
 refine s_val (v_strEq rfl rfl (hl.take _) hf) ?_
 refine s_val (v_pickT (v := .bool _) rfl h10 rfl) ?_
 refine s_val (v_assign (v := .bool _) rfl) ?_
 refine s_nil ?_
 refine c_ret ?_
 refine n_done rfl (by decide) (Eq.trans (b := .bool _) rfl (congrArg Value.bool ?_))
 rfl
theorem g_HasPrefix (l f : List Nat) (w : World) (hl : Byt l) (hf : Byt f) : Gives Try.prog 34 [S l, S f] w (.bool (begins l f)) := by
 refine gives_of Try.func34 rfl Try.ntmps34 (by simp) ?_
 refine r_seq (by kernel_rfl) ?_
 refine s_val (v_assign (v := .bool _) rfl) ?_
 refine s_nil ?_
 refine r_seq (by kernel_rfl) ?_
 refine s_val (v_move (v := S _) rfl) ?_
 refine s_val (v_move (v := S _) rfl) ?_
 refine s_call (by kernel_rfl) (fun w hw => g_HasPrefix0 l f w hl hf) ?_
 refine s_val (v_assign (v := .bool _) rfl) ?_
 refine s_nil ?_
 refine c_ret ?_
 refine n_done rfl (by decide) (Eq.trans (b := .bool _) rfl (congrArg Value.bool ?_))
 rfl
end Go.Proofs.Ytmkboljfbmlebac
namespace Go.Proofs.Ytmkboljfbmlebac
open Go.RowKit
set_option linter.unusedSimpArgs false
set_option linter.unusedVariables false
set_option maxRecDepth 100000
attribute [local irreducible] cC sC nC rC qw
theorem g_appendNumber (F : Addr → Value → Prop) (E0 : List (Nat × Obj)) (v0 : Value) (l : List Nat) (n : Int) (hB : Bytes 5 v0 l E0) (hn : notedI n = true) (hl : l.length ≤ 1000) : GivesW Try.prog 30 [v0, I n] F (E0) (fun _ v B' => Bytes 5 v (l ++ digs (zig n)) B') := by
 refine givesW_of Try.func30 rfl Try.ntmps30 (by simp) (fun w K => ?_)
 have hz5 := zig_lt hn
 refine r_seq (by kernel_rfl) ?_
 refine s_val (v_assign (v := .slice _ _ _) rfl) ?_
 refine s_nil ?_
 refine r_seq (by kernel_rfl) ?_
 refine s_val (v_move (v := .int .i64 _) rfl) ?_
 refine s_call (by kernel_rfl) (fun w hw => g_fold n w hn) ?_
 refine s_val (v_assign (v := .int .i64 _) rfl) ?_
 refine s_nil ?_
 refine c_seq ?_
 refine c_block ?_
 refine c_loop (σ := AN) (fun (s : AN) f => ∃ g, (digs (zig n) = s.m ++ digs s.u ∧ s.u < 128 ^ 5 ∧ s.m.length + (digs s.u).length ≤ 5 ∧ Bytes 5 s.v (l ++ s.m) s.E) ∧ f = (upd (upd g 0 (s.v)) 5 (I (s.u : Nat)))) (fun (s : AN) => Has w F (s.E ++ K)) (fun (s : AN) => s.u) ⟨zig n, [], v0, E0⟩ ⟨_, ⟨rfl, hz5, by simpa using digs_len5 hn, by simpa using hB⟩, live2 rfl rfl⟩ (fun w hw => hw) ?_
 rintro s _ ⟨g, ⟨hs1, hs2, hs3, hs4⟩, rfl⟩
 refine c_seq ?_
 refine r_seq (by kernel_rfl) ?_
 refine s_val (v_move (v := .int .i64 _) rfl) ?_
 refine s_val (v_geq (k := .i64) rfl rfl) ?_
 refine s_nil ?_
 refine c_condR rfl rfl (fun h9 => ?_) (fun h9 => ?_)
 · have hu := of_decide_eq_false h9
   refine c_exit ?_
   refine n_exit ?_
   refine n_exit ?_
   refine n_bhere ?_
   refine n_then ?_
   refine r_seq (by kernel_rfl) ?_
   refine s_val (v_move (v := _) rfl) ?_
   refine s_val (v_move (v := .int .i64 _) rfl) ?_
   refine s_val (v_toU8 (by kernel_rfl) rfl ⟨by omega, by omega⟩) ?_
   refine s_build1 (v := .int .u8 _) (e := 5) (m := 1) (by_ := 1) (by kernel_rfl) rfl rfl rfl (fill_scalar rfl) (fun b22 => ?_)
   refine s_push (e := 5) (m := 1) (by_ := 1) (by kernel_rfl) rfl rfl rfl rfl rfl hs4 rfl (all_scalar rfl rfl) (by rw [List.length_append]; omega) (fun v23 E23 hE23 => ?_)
   have hB23 : Bytes 5 v23 (l ++ digs (zig n)) E23 := by rw [hs1, digs_lo (by omega), ← List.append_assoc]; exact Bytes.snoc hE23 rfl
   refine s_val (v_assign (v := _) rfl) ?_
   refine s_nil ?_
   refine c_ret ?_
   exact n_doneW rfl (by decide) (fun _ _ h => h) (fun w hw => hw) hB23
 have hu := of_decide_eq_true h9
 refine c_skip ?_
 refine n_then ?_
 refine c_block ?_
 refine r_seq (by kernel_rfl) ?_
 refine s_val (v_move (v := _) rfl) ?_
 refine s_val (v_move (v := .int .i64 _) rfl) ?_
 refine s_val (v_rem (c := ((s.u % 128 : Nat) : Int)) rfl rfl (by decide) (tmod_nat _ 128)) ?_
 refine s_val (v_add rfl rfl (by omega)) ?_
 refine s_val (v_toU8 (by kernel_rfl) rfl ⟨by omega, by omega⟩) ?_
 refine s_build1 (v := .int .u8 _) (e := 5) (m := 1) (by_ := 1) (by kernel_rfl) rfl rfl rfl (fill_scalar rfl) (fun b15 => ?_)
 refine s_push (e := 5) (m := 1) (by_ := 1) (by kernel_rfl) rfl rfl rfl rfl rfl hs4 rfl (all_scalar rfl rfl) (by rw [List.length_append]; omega) (fun v16 E16 hE16 => ?_)
 have hB16 : Bytes 5 v16 (l ++ (s.m ++ [128 + s.u % 128])) E16 := by rw [← List.append_assoc]; exact Bytes.snoc hE16 (by omega)
 refine s_val (v_assign (v := _) rfl) ?_
 refine s_nil ?_
 refine r_list (by kernel_rfl) ?_
 refine s_val (v_move (v := .int .i64 _) rfl) ?_
 refine s_val (v_quo (c := ((s.u / 128 : Nat) : Int)) rfl rfl (by decide) (by rw [show ((s.u : Nat) : Int).tdiv 128 = ((s.u / 128 : Nat) : Int) from tdiv_nat s.u 128]; exact wr_in (by omega) (by omega))) ?_
 refine s_val (v_assign (v := .int .i64 _) rfl) ?_
 refine s_end ?_
 refine n_bnormal ?_
 refine n_round (s := s) ⟨s.u / 128, s.m ++ [128 + s.u % 128], v16, E16⟩ ⟨_, ⟨by rw [hs1, digs_hi (by omega)]; simp, by simp only; omega, by rw [digs_hi (by omega)] at hs3; simp only [List.length_append, List.length_cons, List.length_nil] at hs3 ⊢; omega, hB16⟩, live2 rfl rfl⟩ (fun _ hw => hw) (by simp only; omega)
theorem g_readNumber (l : List Nat) (w : World) (hb : Byt l) (hl : l.length ≤ 8388608) : Gives Try.prog 51 [S l] w (numR l) := by
 refine gives_of Try.func51 rfl Try.ntmps51 (by simp) ?_
 refine r_seq (by kernel_rfl) ?_
 refine s_val (v_assign (v := .int .i64 _) rfl) ?_
 refine s_val (v_assign (v := .int .i64 _) rfl) ?_
 refine s_val (v_assign (v := .bool _) rfl) ?_
 refine s_nil ?_
 refine r_seq (by kernel_rfl) ?_
 refine s_val (v_assign (v := .int .i64 _) rfl) ?_
 refine s_nil ?_
 refine c_seq ?_
 refine r_seq (by kernel_rfl) ?_
 refine s_val (v_move (v := S _) rfl) ?_
 refine s_val (v_strLen (by kernel_rfl) rfl rfl) ?_
 refine s_val (v_least rfl rfl) ?_
 refine s_val (v_move (v := .int .i64 _) rfl) ?_
 refine s_nil ?_
 refine c_block ?_
 refine c_loop (σ := Nat × Nat) (fun (q : Nat × Nat) f => ∃ g, (Dig5 l q.1 q.2) ∧ f = (upd (upd (upd (upd g 0 (S l)) 5 (I (q.2 : Nat))) 10 (I (least l.length 5))) 11 (I (q.1 : Nat)))) (fun (q : Nat × Nat) => Has w (At w) []) (fun (q : Nat × Nat) => 5 - q.1) (0, 0) ⟨_, dig5_start _, live4 rfl rfl rfl rfl⟩ (fun w hw => hw) ?_
 rintro q _ ⟨g, hd, rfl⟩
 refine r_seq (by kernel_rfl) ?_
 refine s_val (v_lss (k := .i64) rfl rfl) ?_
 refine s_nil ?_
 refine c_seq ?_
 refine c_condR rfl rfl (fun h12 => ?_) (fun h12 => ?_)
 · refine c_exit ?_
   refine n_exit ?_
   refine n_exit ?_
   refine n_bhere ?_
   refine n_then ?_
   refine r_seq (by kernel_rfl) ?_
   refine s_val (v_assign (v := .int .i64 _) rfl) ?_
   refine s_val (v_assign (v := .int .i64 _) rfl) ?_
   refine s_val (v_assign (v := .bool _) rfl) ?_
   refine s_nil ?_
   refine c_ret ?_
   exact n_done3 rfl (by decide) (by decide) (by decide) (numR_no (hd.stop (by have := of_decide_eq_false h12; unfold least at this; split at this <;> omega)))
 have hj5 : q.1 < 5 ∧ q.1 < l.length := by have := of_decide_eq_true h12; unfold least at this; split at this <;> omega
 obtain ⟨hj5, hjl⟩ := hj5
 obtain ⟨b, hbb⟩ : ∃ b, l[q.1]? = some b := ⟨l[q.1], List.getElem?_eq_getElem hjl⟩
 have hb256 : b < 256 := hb b (List.mem_of_getElem? hbb)
 have hpw := (pow5 hj5).1
 have hfit := dig5_fits (b := b) hpw
 have hub := hd.ub
 refine c_skip ?_
 refine n_then ?_
 refine c_seq ?_
 refine c_block ?_
 refine r_seq (by kernel_rfl) ?_
 refine s_val (v_move (v := .int .i64 _) rfl) ?_
 refine s_val (v_assign (v := .int .i64 _) rfl) ?_
 refine s_nil ?_
 refine r_seq (by kernel_rfl) ?_
 refine s_val (v_move (v := S _) rfl) ?_
 refine s_val (v_move (v := .int .i64 _) rfl) ?_
 refine s_val (v_strIdx (by kernel_rfl) rfl rfl (by omega) hbb hb256) ?_
 refine s_val (v_ofU8 (by kernel_rfl) rfl ⟨by omega, by omega⟩) ?_
 refine s_val (v_assign (v := .int .i64 _) rfl) ?_
 refine s_nil ?_
 refine r_seq (by kernel_rfl) ?_
 refine s_val (v_move (v := .int .i64 _) rfl) ?_
 refine s_val (v_move (v := .int .i64 _) rfl) ?_
 refine s_val (v_rem (c := ((b % 128 : Nat) : Int)) rfl rfl (by decide) (tmod_nat _ 128)) ?_
 refine s_val (v_move (v := .int .i64 _) rfl) ?_
 refine s_val (v_mul rfl rfl (by omega)) ?_
 refine s_val (v_shl (c := ((b % 128 * 128 ^ q.1 : Nat) : Int)) rfl rfl ⟨by omega, by omega⟩ (shl5 hj5)) ?_
 refine s_val (v_add rfl rfl (by omega)) ?_
 refine s_val (v_assign (v := .int .i64 _) rfl) ?_
 refine s_nil ?_
 rw [show (q.2 : Int) + ((b % 128 * 128 ^ q.1 : Nat) : Int) = (((q.2 + b % 128 * 128 ^ q.1) : Nat) : Int) from (Int.natCast_add _ _).symm]
 refine r_seq (by kernel_rfl) ?_
 refine s_val (v_move (v := .int .i64 _) rfl) ?_
 refine s_val (v_lss (k := .i64) rfl rfl) ?_
 refine s_nil ?_
 refine c_condR rfl rfl (fun h26 => ?_) (fun h26 => ?_)
 · refine c_skip ?_
   refine n_bnormal ?_
   refine n_then ?_
   refine r_list (by kernel_rfl) ?_
   refine s_val (v_add rfl rfl (by omega)) ?_
   refine s_val (v_move (v := .int .i64 _) rfl) ?_
   refine s_end ?_
   refine n_round (s := q) (q.1 + 1, (q.2 + b % 128 * 128 ^ q.1)) ⟨_, hd.step hbb (by have := of_decide_eq_false h26; omega) hb256 hj5, live4 rfl rfl rfl rfl⟩ (fun _ hw => hw) (by dsimp only; omega)
 have hlast := hd.last hbb (by have := of_decide_eq_true h26; omega) hj5
 refine r_seq (by kernel_rfl) ?_
 refine s_val (v_move (v := .int .i64 _) rfl) ?_
 refine s_call (by kernel_rfl) (fun w hw => g_unfold (q.2 + b % 128 * 128 ^ q.1) w (by omega)) ?_
 refine s_val (v_move (v := .int .i64 _) rfl) ?_
 refine s_val (v_add rfl rfl (by omega)) ?_
 refine s_val (v_assign (v := .int .i64 _) rfl) ?_
 refine s_val (v_assign (v := .int .i64 _) rfl) ?_
 refine s_val (v_assign (v := .bool _) rfl) ?_
 refine s_nil ?_
 refine c_ret ?_
 refine n_bret ?_
 refine n_ret ?_
 refine n_ret ?_
 refine n_bret ?_
 refine n_ret ?_
 exact n_done3 rfl (by decide) (by decide) (by decide) (numR_yes hlast (by omega))
end Go.Proofs.Ytmkboljfbmlebac
namespace Go.Proofs.Ytmkboljfbmlebac
open Go.RowKit
set_option linter.unusedSimpArgs false
set_option linter.unusedVariables false
set_option maxRecDepth 100000
attribute [local irreducible] cC sC nC rC qw
set_option maxHeartbeats 1000000 in
theorem g_guess (l : List Nat) (w : World) (hb : Byt l) (hl : l.length ≤ 8388608) : Gives Try.prog 33 [S l] w (guessR l) := by
 refine gives_of Try.func33 rfl Try.ntmps33 (by simp) ?_
 refine r_seq (by kernel_rfl) ?_
 refine s_alloc (z := .agg zeroA.cells) (by kernel_rfl) (fun b2 => ?_)
 refine s_val (v_assign (v := .bool _) rfl) ?_
 refine s_nil ?_
 refine c_seq ?_
 refine r_seq (by kernel_rfl) ?_
 refine s_val (v_move (v := S _) rfl) ?_
 refine s_val (v_strEq rfl rfl hb byt_nil) ?_
 refine s_nil ?_
 refine c_cond rfl rfl (fun h11 => ?_) (fun h11 => ?_)
 · refine r_seq (by kernel_rfl) ?_
   refine s_val (v_build (vs := []) (cs := zeroA.cells) rfl (by kernel_rfl)) ?_
   refine s_storeA (m := 5) (by kernel_rfl) rfl rfl .here rfl rfl (ActS.all1 _) ?_
   refine s_val (v_assign (v := .bool _) rfl) ?_
   refine s_nil ?_
   refine c_ret ?_
   refine n_ret ?_
   exact n_doneCT (m := 5) rfl (by decide) (by decide) rfl (by kernel_rfl) .here rfl (guess_no (guess_nil (of_decide_eq_true h11)))
 have hl1 : 1 ≤ l.length := by
   rcases Nat.eq_zero_or_pos l.length with h | h
   · exact absurd (List.eq_nil_of_length_eq_zero h) (of_decide_eq_false h11)
   · exact h
 refine c_skip ?_
 refine n_then ?_
 refine r_seq (by kernel_rfl) ?_
 refine s_val (v_move (v := S _) rfl) ?_
 refine s_val (v_strLo (by kernel_rfl) rfl rfl ⟨by decide, by omega⟩) ?_
 refine s_val (v_assign (v := S _) rfl) ?_
 refine s_nil ?_
 refine r_seq (by kernel_rfl) ?_
 refine s_alloc (z := .agg (vrow [])) (by kernel_rfl) (fun b5 => ?_)
 refine s_nil ?_
 refine c_seq ?_
 refine r_seq (by kernel_rfl) ?_
 refine s_val (v_move (v := .int .i64 _) rfl) ?_
 refine s_nil ?_
 refine c_block ?_
 refine c_loop (σ := GS) (fun (s : GS) f => ∃ g, (GsOk (l.drop 1) s) ∧ f = (upd (upd (upd (upd (upd g 0 (S l)) 2 (.pointer (some ⟨b2, 0, none⟩))) 4 (S s.rest)) 5 (.pointer (some ⟨b5, 0, none⟩))) 15 (I (s.k : Nat)))) (fun (s : GS) => Has w (At w) [(b5, .cells (vrow s.us) 75), (b2, .cells zeroA.cells 24)]) (fun (s : GS) => 5 - s.k) ⟨0, [], l.drop 1⟩ ⟨_, GsOk.start hb, live5 rfl rfl rfl rfl rfl⟩ (fun w hw => hw) ?_
 rintro s _ ⟨g, hs, rfl⟩
 refine r_seq (by kernel_rfl) ?_
 refine s_val (v_lss (k := .i64) rfl rfl) ?_
 refine s_nil ?_
 refine c_seq ?_
 refine c_condR rfl rfl (fun h16 => ?_) (fun h16 => ?_)
 · have hk55 : s.k = 5 := by have := of_decide_eq_false h16; have := hs.k5; omega
   refine c_exit ?_
   refine n_exit ?_
   refine n_exit ?_
   refine n_bhere ?_
   refine n_then ?_
   refine r_seq (by kernel_rfl) ?_
   refine s_val (v_idxA (len := 5) (size := 1) (k := .i64) (by kernel_rfl) rfl rfl (by decide)) ?_
   refine s_val (v_load1 (v := I (vnum s.us 0)) (by kernel_rfl) rfl .here (vrow_at s.us 0 (by decide))) ?_
   refine s_val (v_idxA (len := 5) (size := 1) (k := .i64) (by kernel_rfl) rfl rfl (by decide)) ?_
   refine s_val (v_load1 (v := I (vnum s.us 1)) (by kernel_rfl) rfl .here (vrow_at s.us 1 (by decide))) ?_
   refine s_val (v_idxA (len := 5) (size := 1) (k := .i64) (by kernel_rfl) rfl rfl (by decide)) ?_
   refine s_val (v_load1 (v := I (vnum s.us 2)) (by kernel_rfl) rfl .here (vrow_at s.us 2 (by decide))) ?_
   refine s_val (v_idxA (len := 5) (size := 1) (k := .i64) (by kernel_rfl) rfl rfl (by decide)) ?_
   refine s_val (v_load1 (v := I (vnum s.us 3)) (by kernel_rfl) rfl .here (vrow_at s.us 3 (by decide))) ?_
   refine s_val (v_idxA (len := 5) (size := 1) (k := .i64) (by kernel_rfl) rfl rfl (by decide)) ?_
   refine s_val (v_load1 (v := I (vnum s.us 4)) (by kernel_rfl) rfl .here (vrow_at s.us 4 (by decide))) ?_
   refine s_val (v_build (vs := [(0, .int .i64 _), (1, .int .i64 _), (2, .int .i64 _), (3, .int .i64 _), (4, .int .i64 _)]) (cs := (act5 s.us).cells) rfl (by kernel_rfl)) ?_
   refine s_storeA (m := 5) (by kernel_rfl) rfl rfl (.there .here) rfl rfl (ActS.all1 _) ?_
   refine s_val (v_assign (v := .bool _) rfl) ?_
   refine s_nil ?_
   refine c_ret ?_
   exact n_doneCT (m := 5) rfl (by decide) (by decide) rfl (by kernel_rfl) (.there .here) rfl (guess_yes (by have := hs.run; rw [hk55] at this; exact this) (hs.ul.trans hk55))
 have hk5 : s.k < 5 := by have := of_decide_eq_true h16; omega
 have hlen := hs.len
 rw [List.length_drop] at hlen
 refine c_skip ?_
 refine n_then ?_
 refine c_seq ?_
 refine c_block ?_
 refine r_seq (by kernel_rfl) ?_
 refine s_val (v_move (v := .int .i64 _) rfl) ?_
 refine s_val (v_assign (v := .int .i64 _) rfl) ?_
 refine s_nil ?_
 refine r_seq (by kernel_rfl) ?_
 refine s_val (v_move (v := S _) rfl) ?_
 refine s_call (by kernel_rfl) (fun w hw => g_readNumber s.rest w hs.byt (by omega)) ?_
 refine s_val (v_move (v := .tuple _) rfl) ?_
 refine s_val (v_extract rfl rfl) ?_
 refine s_val (v_extract rfl rfl) ?_
 refine s_val (v_extract rfl rfl) ?_
 refine s_val (v_assign (v := .int .i64 _) rfl) ?_
 refine s_val (v_assign (v := .int .i64 _) rfl) ?_
 refine s_val (v_assign (v := .bool _) rfl) ?_
 refine s_nil ?_
 refine c_seq ?_
 refine r_seq (by kernel_rfl) ?_
 refine s_val (v_move (v := .bool _) rfl) ?_
 refine s_val (v_not rfl) ?_
 refine s_nil ?_
 refine c_condN rfl rfl (fun h25 => ?_) (fun h25 => ?_)
 · refine r_seq (by kernel_rfl) ?_
   refine s_val (v_build (vs := []) (cs := zeroA.cells) rfl (by kernel_rfl)) ?_
   refine s_storeA (m := 5) (by kernel_rfl) rfl rfl (.there .here) rfl rfl (ActS.all1 _) ?_
   refine s_val (v_assign (v := .bool _) rfl) ?_
   refine s_nil ?_
   refine c_ret ?_
   refine n_ret ?_
   refine n_bret ?_
   refine n_ret ?_
   refine n_ret ?_
   refine n_bret ?_
   refine n_ret ?_
   exact n_doneCT (m := 5) rfl (by decide) (by decide) rfl (by kernel_rfl) (.there .here) rfl (guess_no (hs.gone hk5 (rn_no h25)))
 obtain ⟨u, hu, hval, hkl⟩ := rn_yes h25
 refine c_skip ?_
 refine n_then ?_
 refine r_seq (by kernel_rfl) ?_
 refine s_val (v_move (v := .int .i64 _) rfl) ?_
 refine s_val (v_move (v := .int .i64 _) rfl) ?_
 refine s_val (v_idxA (len := 5) (size := 1) (k := .i64) (by kernel_rfl) rfl rfl ⟨by omega, by omega⟩) ?_
 refine s_store1 (v := .int .i64 _) (by kernel_rfl) rfl rfl .here ⟨by simp only [Array.size_setIfInBounds, vrow_size]; omega, rfl⟩ rfl ?_
 refine s_nil ?_
 refine r_list (by kernel_rfl) ?_
 refine s_val (v_move (v := S _) rfl) ?_
 refine s_val (v_move (v := .int .i64 _) rfl) ?_
 refine s_val (v_strLo (by kernel_rfl) rfl rfl ⟨by omega, by omega⟩) ?_
 refine s_val (v_assign (v := S _) rfl) ?_
 refine s_end ?_
 refine n_bnormal ?_
 refine n_then ?_
 refine r_list (by kernel_rfl) ?_
 refine s_val (v_add rfl rfl (by omega)) ?_
 refine s_val (v_move (v := .int .i64 _) rfl) ?_
 refine s_end ?_
 refine n_round (s := s) ⟨s.k + 1, s.us ++ [u], s.rest.drop (rnK s.rest)⟩ ⟨_, hs.next hk5 hu, live5 rfl rfl rfl rfl rfl⟩ (fun _ hw => by rw [← vrow_set hs.ul hk5, ← hval]; exact hw) (by dsimp only; omega)
end Go.Proofs.Ytmkboljfbmlebac
namespace Go.Proofs.Ytmkboljfbmlebac
open Go.RowKit
set_option linter.unusedSimpArgs false
set_option linter.unusedVariables false
set_option maxRecDepth 100000
attribute [local irreducible] cC sC nC rC qw
set_option maxHeartbeats 1000000 in
theorem g_Frame (a : ActS) (w : World) : Gives Try.prog 23 [.agg a.cells] w (frameR a) := by
 refine gives_of Try.func23 rfl Try.ntmps23 (by simp) ?_
 refine r_seq (by kernel_rfl) ?_
 refine s_box (v := .agg _) rfl (fun b1 => ?_)
 refine s_val (v_assign (v := S []) rfl) ?_
 refine s_val (v_assign (v := .int .i64 _) rfl) ?_
 refine s_nil ?_
 refine c_seq ?_
 refine r_seq (by kernel_rfl) ?_
 refine s_val (v_loadA (m := 5) (by kernel_rfl) rfl .here rfl) ?_
 refine s_call (by kernel_rfl) (fun w hw => g_Good4 a w) ?_
 refine s_val (v_not rfl) ?_
 refine s_nil ?_
 refine c_condN rfl rfl (fun h12 => ?_) (fun h12 => ?_)
 · refine r_seq (by kernel_rfl) ?_
   refine s_val (v_assign (v := S []) rfl) ?_
   refine s_val (v_assign (v := .int .i64 _) rfl) ?_
   refine s_nil ?_
   refine c_ret ?_
   refine n_ret ?_
   exact n_doneT rfl (by decide) (by decide) (by rw [frameR_no h12]; rfl)
 have h11 : noted a = true := h12
 have hbl := body_len h11
 refine c_skip ?_
 refine n_then ?_
 refine r_seq (by kernel_rfl) ?_
 refine s_val (v_assign (v := .slice _ _ _) rfl) ?_
 refine s_nil ?_
 refine c_seq ?_
 refine r_seq (by kernel_rfl) ?_
 refine s_val (v_loadA (m := 5) (by kernel_rfl) rfl .here rfl) ?_
 refine s_call (by kernel_rfl) (fun w hw => g_list a w) ?_
 refine s_val (v_move (v := .int .i64 _) rfl) ?_
 refine s_nil ?_
 refine c_block ?_
 refine c_loop (σ := FB) (fun (s : FB) f => ∃ g, (s.k ≤ 5 ∧ Bytes 5 s.v (bodyTo a s.k) s.E) ∧ f = (upd (upd (upd (upd g 1 (.pointer (some ⟨b1, 0, none⟩))) 4 (s.v)) 14 (.agg a.cells)) 15 (I (s.k : Nat)))) (fun (s : FB) => Has w (At w) (s.E ++ [(b1, .cells a.cells 24)])) (fun (s : FB) => 5 - s.k) ⟨0, .slice none 0 0, []⟩ ⟨_, ⟨by decide, byts_nil _⟩, live4 rfl rfl rfl rfl⟩ (fun w hw => hw) ?_
 rintro s _ ⟨g, ⟨hk, hs⟩, rfl⟩
 refine r_seq (by kernel_rfl) ?_
 refine s_val (v_lss (k := .i64) rfl rfl) ?_
 refine s_nil ?_
 refine c_seq ?_
 refine c_cond rfl rfl (fun h16 => ?_) (fun h16 => ?_)
 · have hk5 : s.k < 5 := by have := of_decide_eq_true h16; omega
   obtain ⟨n, hnk, hcn⟩ := a.get hk5
   have hroom := body_room h11 s.k
   refine c_skip ?_
   refine n_then ?_
   refine c_seq ?_
   refine c_block ?_
   refine r_seq (by kernel_rfl) ?_
   refine s_val (v_indexS (len := 5) (t := 3) (m := 1) (k := .i64) (v := I n) (by kernel_rfl) (by kernel_rfl) rfl rfl ⟨by omega, by omega⟩ hcn) ?_
   refine s_val (v_assign (v := .int .i64 _) rfl) ?_
   refine s_nil ?_
   refine r_list (by kernel_rfl) ?_
   refine s_val (v_move (v := _) rfl) ?_
   refine s_val (v_move (v := .int .i64 _) rfl) ?_
   refine s_callB (by kernel_rfl) (g_appendNumber (At w) s.E s.v (bodyTo a s.k) n hs (noted_list h11 hnk) (by omega)) (fun v20 E20 hR20 => ?_)
   refine s_val (v_assign (v := _) rfl) ?_
   refine s_end ?_
   refine n_bnormal ?_
   refine n_then ?_
   refine r_list (by kernel_rfl) ?_
   refine s_val (v_add rfl rfl (by omega)) ?_
   refine s_val (v_move (v := .int .i64 _) rfl) ?_
   refine s_end ?_
   refine n_round (s := s) ⟨s.k + 1, v20, E20⟩ ⟨_, ⟨hk5, by rw [body_step hnk]; exact hR20⟩, live4 rfl rfl rfl rfl⟩ (fun _ hw => hw) (by dsimp only; omega)
 refine c_exit ?_
 refine n_exit ?_
 refine n_exit ?_
 refine n_bhere ?_
 refine n_then ?_
 have hk55 : s.k = 5 := by have := of_decide_eq_false h16; omega
 rw [hk55, body_five] at hs
 obtain ⟨g4, c4, cs4, hv4, hE4, hc4⟩ := hs.block (by omega)
 rw [hv4]
 refine c_weak (C' := Has w (At w) [(g4, .cells cs4 5), (b1, .cells a.cells 24)]) (fun _ hw => by rw [hE4] at hw; exact hw) ?_
 refine r_seq (by kernel_rfl) ?_
 refine s_val (v_move (v := .slice _ _ _) rfl) ?_
 refine s_val (v_lenS (T := 74) (m := 1) (by kernel_rfl) rfl rfl) ?_
 refine s_val (v_toU8 (by kernel_rfl) rfl ⟨by omega, by omega⟩) ?_
 refine s_build1 (v := .int .u8 _) (e := 5) (m := 1) (by_ := 1) (by kernel_rfl) rfl rfl rfl (fill_scalar rfl) (fun b25 => ?_)
 refine s_val (v_assign (v := .slice _ _ _) rfl) ?_
 refine s_nil ?_
 refine r_seq (by kernel_rfl) ?_
 refine s_val (v_move (v := .slice _ _ _) rfl) ?_
 refine s_val (v_move (v := .slice _ _ _) rfl) ?_
 refine s_pushM (E := [(b25, .cells #[U8 ((bodyOf a).length : Nat)] 5)]) (e := 5) (m := 1) (by_ := 1) (mm := (bodyOf a).length) (news := u8s (bodyOf a)) (by kernel_rfl) rfl rfl rfl rfl rfl (byts_one _ b25 (bodyOf a).length) (by rw [u8s_len]; omega) (fun w1 hw j u hj => ?_) (u8s_one _) (by omega) (by simp only [List.length_cons, List.length_nil]; omega) (fun v28 E28 hE28 => ?_)
 · obtain ⟨m, hm, rfl⟩ : ∃ m, (bodyOf a)[j]? = some m ∧ u = U8 (m : Int) := by
     cases hq : (bodyOf a)[j]? with
     | none => simp [u8s, hq] at hj
     | some m => exact ⟨m, rfl, by simpa [u8s, hq] using hj.symm⟩
   rw [Nat.zero_add, cell_has hw (.there .here)]; exact hc4 j m hm
 have hB28 : Bytes 5 v28 ((bodyOf a).length :: bodyOf a) E28 := Bytes.push (l := [(bodyOf a).length]) hE28
 refine s_val (v_assign (v := _) rfl) ?_
 refine s_nil ?_
 refine r_seq (by kernel_rfl) ?_
 refine s_val (v_move (v := .slice _ _ _) rfl) ?_
 refine s_call (by kernel_rfl) (fun w hw => g_checksum (some ⟨g4, 0, none⟩) c4 (bodyOf a) w (.inr ⟨g4, 0, rfl, fun j m hj => by show World.cell? _ _ = _; rw [Nat.zero_add, cell_has hw (Look.app .here)]; exact hc4 j m hj⟩) (fun b hb => body_byte a b hb) (by omega)) ?_
 refine s_val (v_move (v := .tuple _) rfl) ?_
 refine s_val (v_extract rfl rfl) ?_
 refine s_val (v_extract rfl rfl) ?_
 refine s_val (v_assign (v := .int .u8 _) rfl) ?_
 refine s_val (v_assign (v := .int .u8 _) rfl) ?_
 refine s_nil ?_
 refine r_seq (by kernel_rfl) ?_
 refine s_val (v_move (v := _) rfl) ?_
 refine s_val (v_move (v := .int .u8 _) rfl) ?_
 refine s_val (v_move (v := .int .u8 _) rfl) ?_
 refine s_buildS (e := 5) (vs := [(0, .int .u8 _), (1, .int .u8 _)]) (cs := #[U8 (((sumOf (bodyOf a)).1 % 251 : Nat) : Int), U8 (((sumOf (bodyOf a)).2 % 251 : Nat) : Int)]) rfl (by kernel_rfl) (fun b37 => ?_)
 refine s_pushN (e := 5) (m := 1) (by_ := 1) (mm := 2) (by kernel_rfl) rfl rfl rfl rfl rfl hB28 rfl (by simp [Value.oneCell']) (by decide) (by simp only [List.length_cons]; omega) (fun v38 E38 hE38 => ?_)
 have hB38 : Bytes 5 v38 (((bodyOf a).length :: bodyOf a) ++ [(sumOf (bodyOf a)).1 % 251, (sumOf (bodyOf a)).2 % 251]) E38 := Bytes.push (m := [(sumOf (bodyOf a)).1 % 251, (sumOf (bodyOf a)).2 % 251]) hE38
 refine s_val (v_strOfE (l := frameOf a) (by kernel_rfl) (by kernel_rfl) rfl hB38 (by rw [frame_len]; omega) (frame_byte h11)) ?_
 refine s_val (v_assign (v := S _) rfl) ?_
 refine s_val (v_assign (v := .int .i64 _) rfl) ?_
 refine s_nil ?_
 refine c_ret ?_
 exact n_doneT rfl (by decide) (by decide) (by rw [frameR_yes h11]; rfl)
end Go.Proofs.Ytmkboljfbmlebac
namespace Go.Proofs.Ytmkboljfbmlebac
open Go.RowKit
set_option linter.unusedSimpArgs false
set_option linter.unusedVariables false
set_option maxRecDepth 100000
attribute [local irreducible] cC sC nC rC qw
set_option maxHeartbeats 1000000 in
theorem g_readFrame (l : List Nat) (w : World) (hb : Byt l) (hl : l.length ≤ 8388608) : Gives Try.prog 25 [S l] w (frontR l) := by
 refine gives_of Try.func25 rfl Try.ntmps25 (by simp) ?_
 refine r_seq (by kernel_rfl) ?_
 refine s_alloc (z := .agg zeroA.cells) (by kernel_rfl) (fun b2 => ?_)
 refine s_val (v_assign (v := .int .i64 _) rfl) ?_
 refine s_val (v_assign (v := .bool _) rfl) ?_
 refine s_nil ?_
 refine r_seq (by kernel_rfl) ?_
 refine s_val (v_move (v := S _) rfl) ?_
 refine s_call (by kernel_rfl) (fun w hw => g_guess l w hb hl) ?_
 refine s_val (v_move (v := .tuple _) rfl) ?_
 refine s_val (v_extract rfl rfl) ?_
 refine s_val (v_extract rfl rfl) ?_
 refine s_alloc (z := .agg zeroA.cells) (by kernel_rfl) (fun b5 => ?_)
 refine s_storeA (m := 5) (by kernel_rfl) rfl rfl .here rfl rfl (ActS.all1 _) ?_
 refine s_val (v_assign (v := .bool _) rfl) ?_
 refine s_nil ?_
 refine c_seq ?_
 refine r_seq (by kernel_rfl) ?_
 refine s_val (v_move (v := .bool _) rfl) ?_
 refine s_val (v_not rfl) ?_
 refine s_nil ?_
 refine c_condN rfl rfl (fun h15 => ?_) (fun h15 => ?_)
 · refine r_seq (by kernel_rfl) ?_
   refine s_val (v_build (vs := []) (cs := zeroA.cells) rfl (by kernel_rfl)) ?_
   refine s_storeA (m := 5) (by kernel_rfl) rfl rfl (.there .here) rfl rfl (ActS.all1 _) ?_
   refine s_val (v_assign (v := .int .i64 _) rfl) ?_
   refine s_val (v_assign (v := .bool _) rfl) ?_
   refine s_nil ?_
   refine c_ret ?_
   refine n_ret ?_
   exact n_doneCTT (m := 5) rfl (by decide) (by decide) (by decide) rfl (by kernel_rfl) (.there .here) rfl (front_no (first_gone h15))
 refine c_skip ?_
 refine n_then ?_
 refine r_seq (by kernel_rfl) ?_
 refine s_val (v_loadA (m := 5) (by kernel_rfl) rfl .here rfl) ?_
 refine s_call (by kernel_rfl) (fun w hw => g_Frame (gAct l) w) ?_
 refine s_val (v_move (v := .tuple _) rfl) ?_
 refine s_val (v_extract rfl rfl) ?_
 refine s_val (v_extract rfl rfl) ?_
 refine s_val (v_assign (v := S _) rfl) ?_
 refine s_val (v_assign (v := .int .i64 _) rfl) ?_
 refine s_nil ?_
 refine c_seq ?_
 refine r_seq (by kernel_rfl) ?_
 refine s_val (v_move (v := .int .i64 _) rfl) ?_
 refine s_val (v_neq (k := .i64) rfl rfl) ?_
 refine s_val (v_move (v := .bool _) rfl) ?_
 refine s_splitN (s := 24) rfl (fun h24 => ?_) (fun h24 => ?_)
 · refine s_pass rfl rfl (congrArg not h24) ?_
   refine s_pass rfl rfl (congrArg not h24) ?_
   refine s_pass rfl rfl (congrArg not h24) ?_
   refine s_pass rfl rfl (congrArg not h24) ?_
   refine s_val (v_pickT (v := .bool _) rfl (congrArg not h24) rfl) ?_
   refine s_nil ?_
   refine c_condTh rfl rfl rfl ?_
   refine r_seq (by kernel_rfl) ?_
   refine s_val (v_build (vs := []) (cs := zeroA.cells) rfl (by kernel_rfl)) ?_
   refine s_storeA (m := 5) (by kernel_rfl) rfl rfl (.there .here) rfl rfl (ActS.all1 _) ?_
   refine s_val (v_assign (v := .int .i64 _) rfl) ?_
   refine s_val (v_assign (v := .bool _) rfl) ?_
   refine s_nil ?_
   refine c_ret ?_
   refine n_ret ?_
   exact n_doneCTT (m := 5) rfl (by decide) (by decide) (by decide) rfl (by kernel_rfl) (.there .here) rfl (front_no (first_other h15 (fun h => absurd (by simp [fErr, h.1]) (of_decide_eq_false h24))))
 have hnx := fErr_ok (of_decide_eq_true h24)
 have hft : fText (gAct l) = frameOf (gAct l) := by simp [fText, hnx]
 refine s_want rfl rfl (congrArg not h24) ?_
 refine s_val (v_move (v := S _) rfl) ?_
 refine s_want rfl rfl (congrArg not h24) ?_
 refine s_val (v_move (v := S _) rfl) ?_
 refine s_want rfl rfl (congrArg not h24) ?_
 refine s_call (by kernel_rfl) (fun w hw => g_HasPrefix l (fText (gAct l)) w hb (fText_byt _)) ?_
 refine s_want rfl rfl (congrArg not h24) ?_
 refine s_val (v_not rfl) ?_
 refine s_val (v_pickF (v := .bool _) rfl (congrArg not h24) rfl) ?_
 refine s_nil ?_
 refine c_condN rfl rfl (fun h29 => ?_) (fun h29 => ?_)
 · refine r_seq (by kernel_rfl) ?_
   refine s_val (v_build (vs := []) (cs := zeroA.cells) rfl (by kernel_rfl)) ?_
   refine s_storeA (m := 5) (by kernel_rfl) rfl rfl (.there .here) rfl rfl (ActS.all1 _) ?_
   refine s_val (v_assign (v := .int .i64 _) rfl) ?_
   refine s_val (v_assign (v := .bool _) rfl) ?_
   refine s_nil ?_
   refine c_ret ?_
   refine n_ret ?_
   exact n_doneCTT (m := 5) rfl (by decide) (by decide) (by decide) rfl (by kernel_rfl) (.there .here) rfl (front_no (first_other h15 (fun h => absurd ((begins_iff (l := l) (f := fText (gAct l))).2 (by rw [hft]; exact h.2)) (by rw [h29]; decide))))
 refine c_skip ?_
 refine n_then ?_
 refine r_seq (by kernel_rfl) ?_
 refine s_val (v_loadA (m := 5) (by kernel_rfl) rfl .here rfl) ?_
 refine s_val (v_move (v := S _) rfl) ?_
 refine s_val (v_strLen (by kernel_rfl) rfl rfl) ?_
 refine s_storeA (m := 5) (by kernel_rfl) rfl rfl (.there .here) rfl rfl (ActS.all1 _) ?_
 refine s_val (v_assign (v := .int .i64 _) rfl) ?_
 refine s_val (v_assign (v := .bool _) rfl) ?_
 refine s_nil ?_
 refine c_ret ?_
 exact n_doneCTT (m := 5) rfl (by decide) (by decide) (by decide) rfl (by kernel_rfl) (.there .here) rfl (by rw [hft]; exact front_yes (first_this hnx (by rw [← hft]; exact begins_iff.1 h29)))
end Go.Proofs.Ytmkboljfbmlebac
namespace Go.Proofs.Ytmkboljfbmlebac
open Go.RowKit
set_option linter.unusedSimpArgs false
set_option linter.unusedVariables false
set_option maxRecDepth 100000
attribute [local irreducible] cC sC nC rC qw
set_option maxHeartbeats 1000000 in
theorem g_Read (l : List Nat) (w : World) (hb : Byt l) (hl : l.length ≤ 8388608) : GivesF Try.prog 19 [S l] w (ReadF l) := by
 refine givesF_of Try.func19 rfl Try.ntmps19 (by simp) ?_
 refine r_seq (by kernel_rfl) ?_
 refine s_val (v_assign (v := .slice _ _ _) rfl) ?_
 refine s_val (v_assign (v := .int .i64 _) rfl) ?_
 refine s_nil ?_
 refine r_seq (by kernel_rfl) ?_
 refine s_val (v_assign (v := .slice _ _ _) rfl) ?_
 refine s_nil ?_
 refine r_seq (by kernel_rfl) ?_
 refine s_val (v_assign (v := .int .i64 _) rfl) ?_
 refine s_nil ?_
 refine c_block ?_
 refine c_loop (σ := RB) (fun (s : RB) f => ∃ g, (RbOk 24 l s) ∧ f = (upd (upd (upd g 0 (S l)) 4 (s.v)) 5 (I ((bytesOf s.xs).length : Nat)))) (fun (s : RB) => Has w (At w) (s.E ++ [])) (fun (s : RB) => l.length - (bytesOf s.xs).length) ⟨[], .slice none 0 0, []⟩ ⟨_, ⟨listE_nil _ _, Nat.zero_le _, rfl, Nat.le_refl _⟩, live3 rfl rfl rfl⟩ (fun w hw => hw) ?_
 rintro s _ ⟨g, ho, rfl⟩
 refine c_block ?_
 have hfront := ho.front
 refine r_seq (by kernel_rfl) ?_
 refine s_val (v_move (v := S _) rfl) ?_
 refine s_val (v_move (v := .int .i64 _) rfl) ?_
 refine s_val (v := S (l.drop (bytesOf s.xs).length)) (v_strLo (a := l) (i := ((bytesOf s.xs).length : Nat)) (by kernel_rfl) rfl rfl ⟨by omega, by omega⟩) ?_
 refine s_call (by kernel_rfl) (fun w hw => g_readFrame (l.drop (bytesOf s.xs).length) w (hb.drop _) (by rw [List.length_drop]; omega)) ?_
 refine s_val (v_move (v := .tuple _) rfl) ?_
 refine s_val (v_extract rfl rfl) ?_
 refine s_val (v_extract rfl rfl) ?_
 refine s_val (v_extract rfl rfl) ?_
 refine s_alloc (z := .agg zeroA.cells) (by kernel_rfl) (fun b6 => ?_)
 refine s_storeA (m := 5) (by kernel_rfl) rfl rfl .here rfl rfl (ActS.all1 _) ?_
 refine s_val (v_assign (v := .int .i64 _) rfl) ?_
 refine s_val (v_assign (v := .bool _) rfl) ?_
 refine s_nil ?_
 refine c_seq ?_
 refine r_seq (by kernel_rfl) ?_
 refine s_val (v_move (v := .bool _) rfl) ?_
 refine s_val (v_not rfl) ?_
 refine s_nil ?_
 refine c_condN rfl rfl (fun h18 => ?_) (fun h18 => ?_)
 · refine r_seq (by kernel_rfl) ?_
   refine s_val (v_move (v := _) rfl) ?_
   refine s_val (v_move (v := .int .i64 _) rfl) ?_
   refine s_val (v_assign (v := _) rfl) ?_
   refine s_val (v_assign (v := .int .i64 _) rfl) ?_
   refine s_nil ?_
   refine c_ret ?_
   refine n_ret ?_
   refine n_bret ?_
   refine n_ret ?_
   refine n_bret ?_
   refine n_doneTF rfl (by decide) (by decide) (fun w hw => ?_)
   exact ho.done (rf_no h18) (own_fresh hw.tail)
 refine c_skip ?_
 refine n_then ?_
 refine c_weak (C' := Has w (At w) (s.E ++ [(b6, .cells (rfAct (l.drop (bytesOf s.xs).length)).cells 24)])) (fun _ hw => by
   have h1 := hw.sub (L' := (b6, .cells (rfAct (l.drop (bytesOf s.xs).length)).cells 24) :: (s.E ++ [])) (List.Sublist.refl _)
   rw [List.append_nil] at h1
   exact h1.perm (List.perm_append_comm (l₁ := [_]))) ?_
 have hfr := rf_yes h18
 have height := ho.eight
 have hfl := frame_len (rfAct (l.drop (bytesOf s.xs).length))
 have hpre := ((first_iff _ _).1 hfr.1).2.length_le
 rw [List.length_drop] at hpre
 refine r_seq (by kernel_rfl) ?_
 refine s_val (v_move (v := _) rfl) ?_
 refine s_val (v_loadA (m := 5) (by kernel_rfl) rfl (.app .here) rfl) ?_
 refine s_build1 (v := .agg _) (e := 24) (m := 5) (by_ := 40) (by kernel_rfl) rfl rfl rfl (fill_one rfl) (fun b23 => ?_)
 refine s_push (e := 24) (m := 5) (by_ := 40) (by kernel_rfl) rfl rfl rfl rfl rfl ho.list rfl (ActS.all1 _) (by omega) (fun v24 E24 hE24 => ?_)
 refine s_val (v_assign (v := _) rfl) ?_
 refine s_nil ?_
 refine r_list (by kernel_rfl) ?_
 refine s_val (v_move (v := .int .i64 _) rfl) ?_
 refine s_val (v_move (v := .int .i64 _) rfl) ?_
 refine s_val (v_add rfl rfl (by omega)) ?_
 refine s_val (v_assign (v := .int .i64 _) rfl) ?_
 refine s_end ?_
 refine n_bnormal ?_
 refine n_round (s := s) ⟨s.xs ++ [rfAct (l.drop (bytesOf s.xs).length)], v24, E24⟩ ⟨_, (ho.next hfr.1 hE24).1, live3 rfl rfl (congrArg I (by have h1 := (ho.next hfr.1 hE24).2; have h2 := hfr.2; dsimp only; omega))⟩ (fun _ hw => hw.sub (List.Sublist.append (List.Sublist.refl _) (List.nil_sublist _))) (by have h1 := (ho.next hfr.1 hE24).2; have h2 := (ho.next hfr.1 hE24).1.front; dsimp only at h2 ⊢; omega)
end Go.Proofs.Ytmkboljfbmlebac
namespace Go.Proofs.Ytmkboljfbmlebac
open Go.RowKit
set_option linter.unusedSimpArgs false
set_option linter.unusedVariables false
def flag (s : Array Bool) (i : Nat) : Bool := s.getD i false
def setf (b : Nat → Bool) (i : Nat) : Nat → Bool := fun j => if j = i then true else b j
theorem flag_set {s : Array Bool} {i : Nat} (hi : i < s.size) : flag (s.setIfInBounds i true) = setf (flag s) i := by
 funext j
 unfold flag setf
 simp only [Array.getD_eq_getD_getElem?, Array.getElem?_setIfInBounds]
 by_cases e : i = j
 · subst e; simp [hi]
 · have e' : ¬ j = i := fun h => e h.symm
   simp [e, e']
def OpOb (P : Program) {ρ : Type} (w0 : World) (Fo : ρ → Addr → Value → Prop) (Lo : (Nat → Bool) → ρ → List (Nat × Obj)) (G : (Nat → Bool) → ρ → Prop) (le : ρ → ρ → Prop) (f : Nat → Value) (l : List Oper) (Ψ : Nat → Value → ρ → Prop) (i : Nat) (o : Oper) : Prop :=
 ∀ (b : Nat → Bool) (r : ρ) (g : Nat → Value), b i = false → (∀ e ∈ o.after, Region.binds .any e = true → b e.on = true) → G b r →
   (∀ t ∈ o.looksAt l.toArray, (t ∈ dstsOf l → Ψ t (g t) r) ∧ (t ∉ dstsOf l → g t = f t)) →
   sC P l.toArray (fun g' w' => ∃ v r', g' = updo g o.dst v ∧ le r r' ∧ G (setf b i) r' ∧ Has w0 (Fo r') (Lo (setf b i) r') w' ∧ ∀ d, o.dst = some d → Ψ d v r') [o] g (Has w0 (Fo r) (Lo b r))
theorem d_gen {P : Program} {ρ : Type} {n id : Nat} {w0 : World} {Fo : ρ → Addr → Value → Prop} {Lo : (Nat → Bool) → ρ → List (Nat × Obj)} {G : (Nat → Bool) → ρ → Prop} {le : ρ → ρ → Prop} {f : Nat → Value} {l : List Oper} {Ψ : Nat → Value → ρ → Prop} {Q : Exit → (Nat → Value) → World → Prop} {y : Code} {F : Addr → Value → Prop} {L : List (Nat × Obj)}
   (hm : P.follows .mixedOrders = true) (hB : opsB n l.toArray = true) (hF : flowB .any l = true) (r0 : ρ) (hF0 : Fo r0 = F) (hL0 : Lo (fun _ => false) r0 = L) (hG0 : G (fun _ => false) r0)
   (hstab : ∀ d v r r', le r r' → Ψ d v r → Ψ d v r') (hst : ∀ i o, l[i]? = some o → OpOb P w0 Fo Lo G le f l Ψ i o)
   (k : ∀ b r g, (∀ i, i < l.length → b i = true) → G b r → (∀ d ∈ dstsOf l, Ψ d (g d) r) → (∀ t, t ∉ dstsOf l → g t = f t) → cC P n y Q g (Has w0 (Fo r) (Lo b r))) : cC P n (.seq (.region id l.toArray true) y) Q f (Has w0 F L) := by
 refine c_seq (d_steps (σ := ρ) (T := fun s r w => G (flag s) r ∧ Has w0 (Fo r) (Lo (flag s) r) w) (le := fun r _ r' _ => le r r') (Ψ := fun d v r _ => Ψ d v r) hm hB hF (fun d v st w st' w' h => hstab d v st st' h) ?_ ?_ ?_)
 · intro w hw
   have e : flag (Array.replicate l.length false) = fun _ => false := by
     funext j
     unfold flag
     simp only [Array.getD_eq_getD_getElem?, Array.getElem?_replicate]
     split <;> rfl
   refine ⟨r0, by rw [e]; exact hG0, ?_⟩
   rw [e, hF0, hL0]
   exact hw.drew
 · intro i o ho s r g w hsz hsi hed hT hl
   have his : i < s.size := (Array.getElem?_eq_some_iff.1 hsi).1
   have h := hst i o ho (flag s) r g (by unfold flag; rw [Array.getD_eq_getD_getElem?, hsi]; rfl) hed hT.1 hl w hT.2
   have fin : ∀ g' w', sw P l.toArray (fun g' w' => ∃ v r', g' = updo g o.dst v ∧ le r r' ∧ G (setf (flag s) i) r' ∧ Has w0 (Fo r') (Lo (setf (flag s) i) r') w' ∧ ∀ d, o.dst = some d → Ψ d v r') [] g' w' →
       ∃ v, g' = updo g o.dst v ∧ ∃ st', (G (flag (s.setIfInBounds i true)) st' ∧ Has w0 (Fo st') (Lo (flag (s.setIfInBounds i true)) st') w') ∧ le r st' ∧ ∀ d, o.dst = some d → Ψ d v st' := by
     intro g' w' h
     unfold sw at h
     obtain ⟨v, r', h1, h2, h3, h4, h5⟩ := h
     rw [flag_set his]
     exact ⟨v, h1, r', ⟨h3, h4⟩, h2, h5⟩
   unfold sw at h
   by_cases hw : Region.wanted o (yf l.toArray g) = true
   · rw [if_pos hw] at h ⊢
     unfold opk at h ⊢
     generalize (execOp (ev g) o).run P w = res at h ⊢
     cases res with
     | ok nx w' =>
       cases nx <;> simp only at h ⊢
       case value v => exact fin _ _ h
       case skip => exact fin _ _ h
       case enter fn args => exact Calls.mono h fun e w'' ⟨v, he, hh⟩ => ⟨v, he, fin _ _ hh⟩
     | halt x w' => exact h
   · rw [if_neg hw] at h ⊢
     obtain ⟨v, hv, st', h1, h2, h3⟩ := fin _ _ h
     refine ⟨st', h1, h2, fun d hd => ?_⟩
     have e := congrFun hv d
     rw [hd] at e
     simp only [updo, upd_same] at e
     rw [e]
     exact h3 d hd
 · intro s r g w hall hT hd he
   refine cC_at (k (flag s) r g (fun i hi => ?_) hT.1 hd he) hT.2
   unfold flag
   rw [Array.getD_eq_getD_getElem?, hall i hi]; rfl
theorem s_fin {P : Program} {ops : Array Oper} {K : (Nat → Value) → World → Prop} {g : Nat → Value} {C : World → Prop} (h : ∀ w, C w → K g w) : sC P ops K [] g C := fun w hw => by
 unfold sw
 exact h w hw
end Go.Proofs.Ytmkboljfbmlebac
namespace Go.Proofs.Ytmkboljfbmlebac
open Go.RowKit
set_option linter.unusedSimpArgs false
set_option linter.unusedVariables false
def over (cs : Array Value) (o : Nat) (vs : List Value) : Array Value := (cs.toList.take o ++ vs ++ cs.toList.drop (o + vs.length)).toArray
section
variable {P : Program} {ops : Array Oper} {K : (Nat → Value) → World → Prop} {rest : List Oper} {f : Nat → Value} {ty : TypeId} {pos : String} {af : Array Edge} {w0 : World} {F : Addr → Value → Prop} {L : List (Nat × Obj)}
theorem s_storeP {T : TypeId} {x y : Operand} {b o t m : Nat} {cs cs1 cs' : Array Value} {L' : List (Nat × Obj)} (hT : sizeB P T m = true) (hx : ev f x = .pointer (some ⟨b, o, none⟩)) (hy : ev f y = .agg cs1)
   (ht : Turn L b (.cells cs t (0, 0)) (.cells cs' t (0, 0)) L') (hs : o + m ≤ cs.size) (hs' : cs1.size = m) (ho : over cs o cs1.toList = cs') (h1 : cs1.all (·.oneCell') = true) (kk : sC P ops K rest f (Has w0 F L')) :
   sC P ops K (⟨none, .store T x y, ty, pos, af, none⟩ :: rest) f (Has w0 F L) := by
 intro w hw
 unfold sw
 rw [if_pos wanted_free]
 unfold opk
 have hl := hw.look ht.look
 have hst := run_storeCells_at (P := P) b o t cs1.toList 0 cs w hl (by simp; omega) (fun v hv => (Array.all_eq_true_iff_forall_mem.1 h1) v (by simpa using hv))
 have hi := sizeB_info hT
 have : (execOp (ev f) ⟨none, .store T x y, ty, pos, af, none⟩).run P w = .ok .skip (w.setRow b cs') := by
   cases hq : P.info? T with
   | none => simp [hq] at hi
   | some i =>
     have hsz : m = i.size := by simp [hq] at hi; omega
     subst ho
     simp [over] at hst ⊢
     simp [execOp, hx, hy, Instr.storeAt, Instr.sureAddr, storeVar, sizeOf, typeInfo, hq, Value.cells, hs', hsz, hst]
 rw [this]
 exact kk _ (has_setRow hw ht)
end
end Go.Proofs.Ytmkboljfbmlebac
namespace Go.Proofs.Ytmkboljfbmlebac
open Go.RowKit
set_option linter.unusedSimpArgs false
set_option linter.unusedVariables false
def bankD (h : H) (t : List Nat) (up : Bool) (n : Int) (fs : Bool) (kp : Int) : Array Value := h.cells ++ #[S t, .bool up, I n, .bool fs, I kp]
section
variable (h : H) (t : List Nat) (up : Bool) (n : Int) (fs : Bool) (kp : Int)
theorem bankD_size : (bankD h t up n fs kp).size = 47 := by simp [bankD, H.size]
theorem bankD_house : (bankD h t up n fs kp).extract (0 + 0) (0 + 0 + 42) = h.cells := by
 unfold bankD
 rw [Array.extract_append]
 simp [H.size]
theorem bankD_over (h' : H) : over (bankD h t up n fs kp) (0 + 0) h'.cells.toList = bankD h' t up n fs kp := by
 unfold over bankD
 apply Array.ext'
 simp [H.size]
theorem bankD_text : (bankD h t up n fs kp)[0 + 42]? = some (S t) := by unfold bankD; rw [Array.getElem?_append_right (by rw [H.size]; omega), H.size]; rfl
theorem bankD_up : (bankD h t up n fs kp)[0 + 43]? = some (.bool up) := by unfold bankD; rw [Array.getElem?_append_right (by rw [H.size]; omega), H.size]; rfl
theorem bankD_acts : (bankD h t up n fs kp)[0 + 44]? = some (I n) := by unfold bankD; rw [Array.getElem?_append_right (by rw [H.size]; omega), H.size]; rfl
theorem bankD_fails : (bankD h t up n fs kp)[0 + 45]? = some (.bool fs) := by unfold bankD; rw [Array.getElem?_append_right (by rw [H.size]; omega), H.size]; rfl
theorem bankD_kept : (bankD h t up n fs kp)[0 + 46]? = some (I kp) := by unfold bankD; rw [Array.getElem?_append_right (by rw [H.size]; omega), H.size]; rfl
theorem bankD_set {k : Nat} (hk : k < 5) (v : Value) : (bankD h t up n fs kp).setIfInBounds (42 + k) v = h.cells ++ (#[S t, .bool up, I n, .bool fs, I kp] : Array Value).setIfInBounds k v := by
 unfold bankD
 rw [Array.setIfInBounds_append_right (by rw [H.size]; omega), H.size]
 congr 2
 omega
theorem bankD_setText {u : List Nat} : 0 + 42 < (bankD h t up n fs kp).size ∧ (bankD h t up n fs kp).setIfInBounds (0 + 42) (S u) = bankD h u up n fs kp := ⟨by rw [bankD_size]; omega, bankD_set h t up n fs kp (k := 0) (by omega) _⟩
theorem bankD_setUp {u : Bool} : 0 + 43 < (bankD h t up n fs kp).size ∧ (bankD h t up n fs kp).setIfInBounds (0 + 43) (.bool u) = bankD h t u n fs kp := ⟨by rw [bankD_size]; omega, bankD_set h t up n fs kp (k := 1) (by omega) _⟩
theorem bankD_setActs {u : Int} : 0 + 44 < (bankD h t up n fs kp).size ∧ (bankD h t up n fs kp).setIfInBounds (0 + 44) (I u) = bankD h t up u fs kp := ⟨by rw [bankD_size]; omega, bankD_set h t up n fs kp (k := 2) (by omega) _⟩
theorem bankD_setFails {u : Bool} : 0 + 45 < (bankD h t up n fs kp).size ∧ (bankD h t up n fs kp).setIfInBounds (0 + 45) (.bool u) = bankD h t up n u kp := ⟨by rw [bankD_size]; omega, bankD_set h t up n fs kp (k := 3) (by omega) _⟩
theorem bankD_setKept {u : Int} : 0 + 46 < (bankD h t up n fs kp).size ∧ (bankD h t up n fs kp).setIfInBounds (0 + 46) (I u) = bankD h t up n fs u := ⟨by rw [bankD_size]; omega, bankD_set h t up n fs kp (k := 4) (by omega) _⟩
end
def keptOf (f : Int) : Int := if 0 ≤ f then f else 0
def DevRep (tb : Nat) (F : Addr → Value → Prop) (b : Nat) (B : List (Nat × Obj)) (s : BankS) : Prop :=
 ∃ h : H, B = [(b, .cells (bankD h s.text (!s.down) s.acts (decide (0 ≤ s.fail)) (keptOf s.fail)) tb (0, 0))] ∧ h.core = s.c ∧ PaysIn F h.pa h.pl s.ps ∧ h.pl ≤ h.pc
theorem DevRep.mono {tb : Nat} {F F' : Addr → Value → Prop} {b : Nat} {B : List (Nat × Obj)} {s : BankS} (h : DevRep tb F b B s) (hm : More F F') : DevRep tb F' b B s := by
 obtain ⟨k, h1, h2, h3, h4⟩ := h
 exact ⟨k, h1, h2, h3.mono hm, h4⟩
noncomputable def openM (s : BankS) : BankS × RepS :=
 bif !s.down then (s, errR 2) else ({ s with c := (replayM (readM s.text)).1, ps := (replayM (readM s.text)).2, text := bytesOf (readM s.text), down := false }, ⟨0, (readM s.text).length, []⟩)
def schedM (s : BankS) (n : Int) : BankS × RepS := bif !withinB n 0 4000 then (s, errR 3) else ({ s with fail := n }, errR 0)
noncomputable def execM (s : BankS) (a : ActS) : BankS × RepS :=
 bif !decide ((nextM s.c s.ps a).code = 0) then (s, (nextM s.c s.ps a).rep)
 else bif !noted a then (s, errR 3)
 else bif decide (4000 < s.text.length + (frameOf a).length) then (s, errR 5)
 else bif decide (0 ≤ s.fail) then ({ s with text := s.text ++ (frameOf a).take s.fail.toNat, down := true, fail := -1 }, errR 7)
 else ({ s with text := s.text ++ frameOf a, c := (nextM s.c s.ps a).c, ps := (nextM s.c s.ps a).ps }, (nextM s.c s.ps a).rep)
theorem doM_eq (s : BankS) (a : ActS) : doM s a = bif decide (s.acts = 200) then (s, errR 5) else bif decide (a.kind = 11) then openM { s with acts := s.acts + 1 } else bif s.down then ({ s with acts := s.acts + 1 }, errR 7)
   else bif decide (a.kind = 10) then schedM { s with acts := s.acts + 1 } a.n else execM { s with acts := s.acts + 1 } a := rfl
def DoR (tb b : Nat) (p : BankS × RepS) (F' : Addr → Value → Prop) (v : Value) (B' : List (Nat × Obj)) : Prop :=
 ∃ v1 E B1, B' = E ++ B1 ∧ v = .agg (repC p.2.code p.2.n v1) ∧ IntsO p.2.done v1 E ∧ DevRep tb F' b B1 p.1
theorem intsO_nil : IntsO [] (.slice none 0 0) [] := ⟨none, 0, rfl, Nat.le_refl _, .inl ⟨rfl, rfl⟩⟩
theorem doR_err {tb b : Nat} {F : Addr → Value → Prop} {h : H} {ps : List PayS} {t : List Nat} {dn : Bool} {fl e : Int} {na : Nat} {p : BankS × RepS} (hq : p = (⟨h.core, ps, t, dn, fl, na⟩, errR e)) (hp : PaysIn F h.pa h.pl ps) (hlc : h.pl ≤ h.pc) :
   DoR tb b p F (.agg (repC e 0 (.slice none 0 0))) [(b, .cells (bankD h t (!dn) na (decide (0 ≤ fl)) (keptOf fl)) tb (0, 0))] := by
 subst hq
 exact ⟨_, [], _, rfl, rfl, intsO_nil, h, rfl, rfl, hp, hlc⟩
theorem doR_rep {tb b e : Nat} {F : Addr → Value → Prop} {h c : H} {ps : List PayS} {t : List Nat} {dn : Bool} {fl : Int} {na : Nat} {p : BankS × RepS} {q : NR} {vd : Value} {E : List (Nat × Obj)} (hq : p = (⟨c, ps, t, dn, fl, na⟩, q.rep)) (hc : h.core = c) (hp : PaysIn F h.pa h.pl ps) (hlc : h.pl ≤ h.pc) (hd : ListE e 1 vd q.done.length (q.done.map I) E) :
   DoR tb b p F (.agg (repC q.code q.n vd)) (E ++ [(b, .cells (bankD h t (!dn) na (decide (0 ≤ fl)) (keptOf fl)) tb (0, 0))]) := by
 subst hq
 exact ⟨_, E, _, rfl, rfl, hd.ints, h, rfl, hc, hp, hlc⟩
theorem fText_yesD {a : ActS} (h : noted a = true) : fText a = frameOf a := by simp [fText, h]
theorem fText_lenD (a : ActS) : (fText a).length ≤ 28 := by
 unfold fText
 cases hn : noted a
 · simp
 · have := (body_len hn).2
   simp [frameOf]; omega
theorem fErr_noD {a : ActS} (h : noted a = false) : fErr a = 3 := by simp [fErr, h]
theorem frame_codeD {a : ActS} : (fErr a = 0 → noted a = true) ∧ (¬ fErr a = 0 → noted a = false) := by
 unfold fErr
 cases noted a <;> simp
theorem take_minD {a : ActS} (h : noted a = true) {fl : Int} (h0 : 0 ≤ fl) : (fText a).take (minI (keptOf fl) ((fText a).length : Int)).toNat = (frameOf a).take fl.toNat := by
 rw [fText_yesD h, keptOf, if_pos h0]
 unfold minI
 split
 · rw [List.take_of_length_le (by omega), List.take_of_length_le (by omega)]
 · rfl
theorem bytes_countD : ∀ (xs : List ActS), xs.length ≤ (bytesOf xs).length
 | [] => Nat.zero_le _
 | x :: r => by
   have e : bytesOf (x :: r) = frameOf x ++ bytesOf r := by simp [bytesOf]
   have := bytes_countD r
   rw [e, List.length_append, List.length_cons, frame_len]
   omega
theorem read_factsD (l : List Nat) : (bytesOf (readM l)).length ≤ l.length ∧ (readM l).length ≤ l.length ∧ l.take ((bytesOf (readM l)).length : Int).toNat = bytesOf (readM l) := by
 have h := (readM_bytes l).1
 have h1 := h.length_le
 have h2 := bytes_countD (readM l)
 exact ⟨h1, by omega, by rw [Int.toNat_natCast]; exact (List.prefix_iff_eq_take.1 h).symm⟩
section
variable {P : Program} {fn : Func} {n t T b m ty : Nat} {fr : Nat × Nat} {cs : Array Value} {f : Nat → Value} {w0 : World} {F0 F : Addr → Value → Prop} {L K : List (Nat × Obj)}
theorem n_doneWD {R : (Addr → Value → Prop) → Value → List (Nat × Obj) → Prop} (hr : fn.results = #[.cell t T]) (ht : t < n) (hp : f t = .pointer (some ⟨b, 0, none⟩))
   (hT : aggB P T m = true) (hl : Look L b (.cells cs ty fr)) (hm : cs.size = m) (hv : ∀ w, Has w0 F L w → retW w0 F0 K R (.agg cs) w) : nC (retQ P fn n (retW w0 F0 K R)) .ret f (Has w0 F L) := by
 intro w hw
 refine ⟨.agg cs, ?_, hv w hw⟩
 have e : (Fa n f).tmps[t]?.getD undef = f t := by simp [Fa, ht]
 subst hm
 have := run_loadN (P := P) (w := w) (b := b) (o := 0) (cs := cs.toList) (by simpa using hT) (fun j v hj => by
   rw [cell_has hw hl]; simpa using hj)
 simp only [Instr.loadAt, Instr.sureAddr, Sem.run_bind, Sem.run_pure, Result.andThen] at this
 simp [results, hr, e, hp, asAddr, this]
end
theorem has_assoc {w0 w : World} {F : Addr → Value → Prop} {A B C : List (Nat × Obj)} (h : Has w0 F ((A ++ B) ++ C) w) : Has w0 F (A ++ (B ++ C)) w := by rw [List.append_assoc] at h; exact h
theorem has_assoc' {w0 w : World} {F : Addr → Value → Prop} {A B C : List (Nat × Obj)} (h : Has w0 F (A ++ (B ++ C)) w) : Has w0 F ((A ++ B) ++ C) w := by rw [List.append_assoc]; exact h
theorem has_one {w0 w : World} {F : Addr → Value → Prop} {x : Nat × Obj} {C : List (Nat × Obj)} (h : Has w0 F (x :: C) w) : Has w0 F ([x] ++ C) w := h
theorem has_last {w0 w : World} {F : Addr → Value → Prop} {x : Nat × Obj} {A C : List (Nat × Obj)} (h : Has w0 F (A ++ (x :: C)) w) : Has w0 F ((A ++ [x]) ++ C) w := has_assoc' (B := [x]) h
abbrev QD := Option (H × Option Addr × Nat × Nat)
structure DE where
 F : Addr → Value → Prop
 E : List (Nat × Obj)
 b5 : Option Nat
 b6 : Option Nat
 q : QD
structure DE.Le (r r' : DE) : Prop where
 F : More r.F r'.F
 b5 : ∀ x, r.b5 = some x → r'.b5 = some x
 b6 : ∀ x, r.b6 = some x → r'.b6 = some x
 q : ∀ x, r.q = some x → r'.q = some x
theorem DE.Le.refl (r : DE) : DE.Le r r := ⟨fun _ _ h => h, fun _ h => h, fun _ h => h, fun _ h => h⟩
def oneD (o : Option Nat) (cs : Array Value) (t : Nat) : List (Nat × Obj) := match o with | some b => [(b, .cells cs t (0, 0))] | none => []
def hqD (b : Bool) (q : QD) : Array Value := if b then (match q with | some (h, _, _, _) => h.cells | none => zeroH.cells) else zeroH.cells
def rqD (b : Bool) (c n : Int) (q : QD) : Array Value := if b then (match q with | some (_, a, m, k) => repC c n (.slice a m k) | none => repC 0 0 (.slice none 0 0)) else repC 0 0 (.slice none 0 0)
def deLo (th tr : Nat) (c n : Int) (L0 : List (Nat × Obj)) (b : Nat → Bool) (r : DE) : List (Nat × Obj) := r.E ++ (oneD r.b6 (rqD (b 12) c n r.q) tr ++ (oneD r.b5 (hqD (b 11) r.q) th ++ L0))
structure deG (F0 : Addr → Value → Prop) (R : (Addr → Value → Prop) → List (Nat × Obj) → H → Option Addr → Nat → Nat → Prop) (b : Nat → Bool) (r : DE) : Prop where
 more : More F0 r.F
 b5 : b 9 = false → r.b5 = none
 b6 : b 10 = false → r.b6 = none
 q : b 5 = false → r.q = none ∧ r.E = []
 has : ∀ h a m k, r.q = some (h, a, m, k) → R r.F r.E h a m k
 h11 : b 11 = true → b 9 = true ∧ b 5 = true
 h12 : b 12 = true → b 10 = true ∧ b 5 = true
section
variable {th tr : Nat} {c n : Int} {L0 : List (Nat × Obj)} {b : Nat → Bool} {r : DE}
theorem deLo_before (hE : r.E = []) (h11 : b 11 = false) (h12 : b 12 = false) : deLo th tr c n L0 b r = [] ++ (oneD r.b6 (repC 0 0 (.slice none 0 0)) tr ++ (oneD r.b5 zeroH.cells th ++ L0)) := by
 simp only [deLo, hE, h11, h12, rqD, hqD, Bool.false_eq_true, if_false]
theorem deLo_call (h11 : b 11 = false) (h12 : b 12 = false) (F' : Addr → Value → Prop) (E' : List (Nat × Obj)) (q' : QD) : E' ++ (oneD r.b6 (repC 0 0 (.slice none 0 0)) tr ++ (oneD r.b5 zeroH.cells th ++ L0)) = deLo th tr c n L0 (setf b 5) ⟨F', E', r.b5, r.b6, q'⟩ := by
 have e1 : setf b 5 11 = false := h11
 have e2 : setf b 5 12 = false := h12
 simp only [deLo, e1, e2, rqD, hqD, Bool.false_eq_true, if_false]
theorem deLo_alloc5 (h5 : r.b5 = none) (h11 : b 11 = false) (x : Nat) : ((x, Obj.cells zeroH.cells th (0, 0)) :: deLo th tr c n L0 b r).Perm (deLo th tr c n L0 (setf b 9) ⟨r.F, r.E, some x, r.b6, r.q⟩) := by
 have e1 : setf b 9 11 = false := h11
 have e2 : setf b 9 12 = b 12 := rfl
 simp only [deLo, h5, h11, e1, e2, oneD, hqD, Bool.false_eq_true, if_false]
 rw [← List.append_assoc, ← List.append_assoc r.E]
 exact List.perm_middle.symm
theorem deLo_alloc6 (h6 : r.b6 = none) (h12 : b 12 = false) (x : Nat) : ((x, Obj.cells (repC 0 0 (.slice none 0 0)) tr (0, 0)) :: deLo th tr c n L0 b r).Perm (deLo th tr c n L0 (setf b 10) ⟨r.F, r.E, r.b5, some x, r.q⟩) := by
 have e1 : setf b 10 12 = false := h12
 have e2 : setf b 10 11 = b 11 := rfl
 simp only [deLo, h6, h12, e1, e2, oneD, rqD, Bool.false_eq_true, if_false]
 exact List.perm_middle.symm
theorem deLo_b5 {x : Nat} (h5 : r.b5 = some x) (h11 : b 11 = false) : deLo th tr c n L0 b r = r.E ++ (oneD r.b6 (rqD (b 12) c n r.q) tr ++ ((x, Obj.cells zeroH.cells th (0, 0)) :: L0)) := by
 simp only [deLo, h5, h11, oneD, hqD, Bool.false_eq_true, if_false]
 rfl
theorem deLo_st5 {x : Nat} (h5 : r.b5 = some x) {h : H} {a : Option Addr} {m k : Nat} (hq' : r.q = some (h, a, m, k)) : r.E ++ (oneD r.b6 (rqD (b 12) c n r.q) tr ++ ((x, Obj.cells h.cells th (0, 0)) :: L0)) = deLo th tr c n L0 (setf b 11) r := by
 have e1 : setf b 11 11 = true := rfl
 have e2 : setf b 11 12 = b 12 := rfl
 simp only [deLo, h5, hq', e1, e2, oneD, hqD, if_true]
 rfl
theorem deLo_b6 {x : Nat} (h6 : r.b6 = some x) (h12 : b 12 = false) : deLo th tr c n L0 b r = r.E ++ ((x, Obj.cells (repC 0 0 (.slice none 0 0)) tr (0, 0)) :: (oneD r.b5 (hqD (b 11) r.q) th ++ L0)) := by
 simp only [deLo, h6, h12, oneD, rqD, Bool.false_eq_true, if_false]
 rfl
theorem deLo_st6 {x : Nat} (h6 : r.b6 = some x) {h : H} {a : Option Addr} {m k : Nat} (hq' : r.q = some (h, a, m, k)) : r.E ++ ((x, Obj.cells (repC c n (.slice a m k)) tr (0, 0)) :: (oneD r.b5 (hqD (b 11) r.q) th ++ L0)) = deLo th tr c n L0 (setf b 12) r := by
 have e1 : setf b 12 12 = true := rfl
 have e2 : setf b 12 11 = b 11 := rfl
 simp only [deLo, h6, hq', e1, e2, oneD, rqD, if_true]
 rfl
theorem deLo_all {x y : Nat} (h5 : r.b5 = some x) (h6 : r.b6 = some y) {h : H} {a : Option Addr} {m k : Nat} (hq' : r.q = some (h, a, m, k)) (h11 : b 11 = true) (h12 : b 12 = true) : deLo th tr c n L0 b r = r.E ++ ((y, Obj.cells (repC c n (.slice a m k)) tr (0, 0)) :: (x, Obj.cells h.cells th (0, 0)) :: L0) := by
 simp only [deLo, h5, h6, hq', h11, h12, oneD, rqD, hqD, if_true]
 rfl
end
def psiD (bp : Nat) (h : H) (a : ActS) (c n : Int) (d : Nat) (v : Value) (r : DE) : Prop :=
 if d = 10 then v = .pointer (some ⟨bp, 0, none⟩) else if d = 11 then v = .pointer (some ⟨bp, 0, none⟩) else if d = 12 then v = .pointer (some ⟨bp, 0 + 0, none⟩) else if d = 13 then v = .agg h.cells else if d = 14 then v = .agg a.cells
 else if d = 15 then (∃ x y m z, r.q = some (x, y, m, z) ∧ v = .tuple #[.agg x.cells, .agg (repC c n (.slice y m z))])
 else if d = 9 then (∃ x y m z, r.q = some (x, y, m, z) ∧ v = .tuple #[.agg x.cells, .agg (repC c n (.slice y m z))])
 else if d = 16 then (∃ x y m z, r.q = some (x, y, m, z) ∧ v = .agg x.cells) else if d = 17 then (∃ x y m z, r.q = some (x, y, m, z) ∧ v = .agg (repC c n (.slice y m z)))
 else if d = 5 then (∃ x, r.b5 = some x ∧ v = .pointer (some ⟨x, 0, none⟩)) else if d = 6 then (∃ x, r.b6 = some x ∧ v = .pointer (some ⟨x, 0, none⟩)) else True
theorem psiD_stab {bp : Nat} {h : H} {a : ActS} {c n : Int} (d : Nat) (v : Value) (r r' : DE) (hle : DE.Le r r') (hp : psiD bp h a c n d v r) : psiD bp h a c n d v r' := by
 unfold psiD at hp ⊢
 by_cases h1 : d = 10
 · rw [if_pos h1] at hp ⊢; exact hp
 rw [if_neg h1] at hp ⊢
 by_cases h2 : d = 11
 · rw [if_pos h2] at hp ⊢; exact hp
 rw [if_neg h2] at hp ⊢
 by_cases h3 : d = 12
 · rw [if_pos h3] at hp ⊢; exact hp
 rw [if_neg h3] at hp ⊢
 by_cases h4 : d = 13
 · rw [if_pos h4] at hp ⊢; exact hp
 rw [if_neg h4] at hp ⊢
 by_cases h5 : d = 14
 · rw [if_pos h5] at hp ⊢; exact hp
 rw [if_neg h5] at hp ⊢
 by_cases h6 : d = 15
 · rw [if_pos h6] at hp ⊢; obtain ⟨x, y, m, z, e1, e2⟩ := hp; exact ⟨x, y, m, z, hle.q _ e1, e2⟩
 rw [if_neg h6] at hp ⊢
 by_cases h7 : d = 9
 · rw [if_pos h7] at hp ⊢; obtain ⟨x, y, m, z, e1, e2⟩ := hp; exact ⟨x, y, m, z, hle.q _ e1, e2⟩
 rw [if_neg h7] at hp ⊢
 by_cases h8 : d = 16
 · rw [if_pos h8] at hp ⊢; obtain ⟨x, y, m, z, e1, e2⟩ := hp; exact ⟨x, y, m, z, hle.q _ e1, e2⟩
 rw [if_neg h8] at hp ⊢
 by_cases h9 : d = 17
 · rw [if_pos h9] at hp ⊢; obtain ⟨x, y, m, z, e1, e2⟩ := hp; exact ⟨x, y, m, z, hle.q _ e1, e2⟩
 rw [if_neg h9] at hp ⊢
 by_cases h10 : d = 5
 · rw [if_pos h10] at hp ⊢; obtain ⟨x, e1, e2⟩ := hp; exact ⟨x, hle.b5 _ e1, e2⟩
 rw [if_neg h10] at hp ⊢
 by_cases h11 : d = 6
 · rw [if_pos h11] at hp ⊢; obtain ⟨x, e1, e2⟩ := hp; exact ⟨x, hle.b6 _ e1, e2⟩
 rw [if_neg h11] at hp ⊢
 exact hp
end Go.Proofs.Ytmkboljfbmlebac
