/- The law TopBook. Condition: a bank that keeps its contracts. -/
import Derived.Test.YtmkboljfbmlebabQ13
import Derived.Test.YtmkboljfbmlebabQxW86
namespace Go.Proofs.Ytmkboljfbmlebab
open Go.RowKit
set_option linter.unusedSimpArgs false
set_option linter.unusedVariables false
set_option maxRecDepth 100000
attribute [local irreducible] cC sC nC rC qw
set_option maxHeartbeats 1000000 in
theorem law_TopBook (bk : BankOk) (a0 : Option Addr) (c0 : Nat) (xs : List ActS) (w : World) (hx : ActsAt (At w) a0 xs) (hlx : xs.length ≤ 9223372036854775807) : Gives Try.prog 10 [.slice a0 xs.length c0] w (.bool true) := by
 refine gives_of Try.func10 rfl Try.ntmps10 (by simp) ?_
 refine r_seq (by kernel_rfl) ?_
 refine s_val (v_assign (v := .bool _) rfl) ?_
 refine s_nil ?_
 refine r_seq (by kernel_rfl) ?_
 refine s_val (v_move (v := .slice _ _ _) rfl) ?_
 refine s_callW (B := []) (by kernel_rfl) (g_play bk (fun _ : Unit => []) (fun _ _ _ _ => True) a0 c0 xs 35 [] (At w) () hx hlx trivial (fun _ _ => trivial) (by kernel_rfl) (looks_plain bk xs 35 (At w) (fun F1 s r x b B E a1 l1 c1 hg hr => look_quiet bk F1 s r x b B E a1 l1 c1 hg hr))) (fun F14 v14 B140 hF14 hR14 => ?_)
 obtain ⟨b14, B14, _, rfl, rfl, hr14, hg14, _⟩ := hR14
 refine s_weak (fun w1 hw => show Has w F14 (B14 ++ _) w1 from (by rw [List.append_nil] at hw; exact hw)) ?_
 refine s_val (v_move (v := .tuple _) rfl) ?_
 refine s_val (v_extract rfl rfl) ?_
 refine s_val (v_extract rfl rfl) ?_
 refine s_val (v_assign (v := .pointer _) rfl) ?_
 refine s_val (v_assign (v := .bool _) rfl) ?_
 refine s_nil ?_
 refine c_seq ?_
 refine r_seq (by kernel_rfl) ?_
 refine s_val (v_move (v := .bool _) rfl) ?_
 refine s_val (v_not rfl) ?_
 refine s_nil ?_
 refine c_condFh rfl rfl (congrArg not rfl) ?_
 refine c_skip ?_
 refine n_then ?_
 refine c_seq ?_
 have h80 : (playM newB (xs.take 80)).acts ≤ 80 := by rw [new_acts _ (by rw [List.length_take]; omega), List.length_take]; omega
 refine r_seq (by kernel_rfl) ?_
 refine s_val (v_move (v := .pointer _) rfl) ?_
 refine s_call (by kernel_rfl) (fun w hw => bk.book w b14 B14 _ hg14 (bk.mono hr14 hw.at) (lies_of hw (fun _ hq => (List.mem_append_left _ hq)))) ?_
 refine s_val (v_move (v := .tuple _) rfl) ?_
 refine s_val (v_extract rfl rfl) ?_
 refine s_val (v_extract rfl rfl) ?_
 refine s_val (v_assign (v := S _) rfl) ?_
 refine s_val (v_assign (v := .bool _) rfl) ?_
 refine s_nil ?_
 refine r_seq (by kernel_rfl) ?_
 refine s_val (v_move (v := .bool _) rfl) ?_
 refine s_val (v_not rfl) ?_
 refine s_nil ?_
 refine c_condNR rfl rfl (fun h25 => ?_) (fun h25 => ?_)
 · refine c_skip ?_
   refine n_then ?_
   have hup : (playM newB (xs.take 80)).down = false := by simpa using h25
   have hac : (playM newB (xs.take 80)).acts ≤ 81 := by omega
   refine r_seq (by kernel_rfl) ?_
   refine s_val (v_move (v := .pointer _) rfl) ?_
   refine s_callF (by kernel_rfl) (fun w hw => bk.house w b14 B14 _ hg14 (bk.mono hr14 hw.at) (lies_of hw (fun _ hq => (List.mem_append_left _ hq)))) (fun F30 v30 E30 hF30 hK30 hR30 => ?_)
   obtain ⟨h30, rfl, hc30, ho30⟩ := hR30
   have hp30 := ho30.known hK30
   have hlc30 := ho30.2.1
   have hl2430 : h30.pl ≤ 24 := by have := (bgood_inv hg14).1.len; have := hp30.1; omega
   refine s_alloc (z := .agg zeroH.cells) (by kernel_rfl) (fun b7 => ?_)
   refine s_storeA (m := 42) (by kernel_rfl) rfl rfl .here (H.size _) (H.size _) (H.all1 _) ?_
   refine s_nil ?_
   refine c_seq ?_
   refine r_seq (by kernel_rfl) ?_
   refine s_val (v_move (v := .int .i64 _) rfl) ?_
   refine s_nil ?_
   refine c_block ?_
   refine c_loop (σ := BkG) (fun (t : BkG) f => ∃ g, (t.k ≤ 2 ∧ More F30 t.F ∧ BGood t.s ∧ bk.Rep t.F b14 t.B t.s ∧ Like t.s (playM newB (xs.take 80)) (3 * t.k)) ∧ f = (upd (upd (upd g 3 (.pointer (some ⟨b14, 0, none⟩))) 7 (.pointer (some ⟨b7, 0, none⟩))) 31 (I t.k))) (fun (t : BkG) => Has w t.F (t.B ++ ((b7, .cells h30.cells 41) :: []))) (fun (t : BkG) => 2 - t.k) ⟨0, F30, (playM newB (xs.take 80)), B14⟩ ⟨_, ⟨Nat.zero_le _, fun _ _ h => h, hg14, bk.mono hr14 hF30, ⟨rfl, rfl, hup, Nat.le_add_right _ _⟩⟩, live3 rfl rfl rfl⟩ (fun w1 hw => (hw.sub (List.Sublist.cons_cons _ (List.Sublist.append (List.Sublist.refl _) (List.Sublist.refl _)))).perm List.perm_middle.symm) ?_
   rintro t _ ⟨g, ⟨hkl, hmt, hgt, hrt, hlk⟩, rfl⟩
   refine r_seq (by kernel_rfl) ?_
   refine s_val (v_lss (k := .i64) rfl rfl) ?_
   refine s_nil ?_
   refine c_seq ?_
   refine c_condR rfl rfl (fun h32 => ?_) (fun h32 => ?_)
   · refine c_exit ?_
     refine n_exit ?_
     refine n_exit ?_
     refine n_bhere ?_
     refine n_then ?_
     refine r_seq (by kernel_rfl) ?_
     refine s_val (v_assign (v := .bool _) rfl) ?_
     refine s_nil ?_
     refine c_ret ?_
     refine n_done rfl (by decide) (Eq.trans (b := .bool _) rfl (congrArg Value.bool ?_))
     rfl
   have hk0 := of_decide_eq_true h32
   have hbr := book_round hgt hlk.up (by have := hlk.acts; omega)
   refine c_skip ?_
   refine n_then ?_
   refine c_seq ?_
   refine c_block ?_
   refine r_seq (by kernel_rfl) ?_
   refine s_val (v_move (v := .pointer _) rfl) ?_
   refine s_val (v_build (vs := [(0, .int .i64 _)]) (cs := failA.cells) rfl (by kernel_rfl)) ?_
   refine s_do bk hgt hrt rfl rfl (fun F35 v35 E35 B35 hF35 hi35 hr35 => ?_)
   obtain ⟨a35, c35, rfl, hl35, ho35⟩ := hi35
   refine s_nil ?_
   refine c_seq ?_
   refine r_seq (by kernel_rfl) ?_
   refine s_val (v_move (v := .pointer _) rfl) ?_
   refine s_val (v_build (vs := [(0, .int .i64 _)]) (cs := closeA.cells) rfl (by kernel_rfl)) ?_
   refine s_weak (fun w1 hw => hw.perm (perm_front (A := E35) (E := B35))) ?_
   refine s_do bk (hgt.act _) hr35 rfl rfl (fun F38 v38 E38 B38 hF38 hi38 hr38 => ?_)
   obtain ⟨a38, c38, rfl, hl38, ho38⟩ := hi38
   refine s_alloc (z := .agg (repC 0 0 (.slice none 0 0))) (by kernel_rfl) (fun b8 => ?_)
   refine s_storeA (m := 3) (by kernel_rfl) rfl rfl .here rfl rfl rep_all ?_
   refine s_nil ?_
   refine r_seq (by kernel_rfl) ?_
   refine s_val (v_field (fo := 0) (by kernel_rfl) rfl) ?_
   refine s_val (v_load1 (v := .int .i64 _) (by kernel_rfl) rfl .here rfl) ?_
   refine s_val (v_neq (k := .i64) rfl rfl) ?_
   refine s_val (v_move (v := .bool _) rfl) ?_
   refine s_splitN (s := 42) rfl (fun h42 => ?_) (fun h42 => ?_)
   · have h5 := hbr.resolve_left (fun h => absurd h.1 (of_decide_eq_false h42))
     refine s_want rfl rfl (congrArg not h42) ?_
     refine s_val (v_field (fo := 0) (by kernel_rfl) rfl) ?_
     refine s_want rfl rfl (congrArg not h42) ?_
     refine s_val (v_load1 (v := .int .i64 _) (by kernel_rfl) rfl .here rfl) ?_
     refine s_want rfl rfl (congrArg not h42) ?_
     refine s_val (v_neq (k := .i64) rfl rfl) ?_
     refine s_val (v_pickT (v := .bool _) rfl (congrArg not h42) rfl) ?_
     refine s_nil ?_
     refine c_condFh rfl rfl (congrArg not (decide_eq_true h5.1)) ?_
     refine c_skip ?_
     refine n_then ?_
     refine c_seq ?_
     refine r_seq (by kernel_rfl) ?_
     refine s_val (v_move (v := .pointer _) rfl) ?_
     refine s_call (by kernel_rfl) (fun w hw => bk.book w b14 B38 _ ((hgt.act _).act _) (bk.mono hr38 hw.at) (lies_of hw (fun _ hq => (List.mem_cons_of_mem _ (List.mem_append_right _ (List.mem_append_left _ hq)))))) ?_
     refine s_val (v_move (v := .tuple _) rfl) ?_
     refine s_val (v_extract rfl rfl) ?_
     refine s_val (v_extract rfl rfl) ?_
     refine s_val (v_assign (v := S _) rfl) ?_
     refine s_val (v_assign (v := .bool _) rfl) ?_
     refine s_nil ?_
     refine r_seq (by kernel_rfl) ?_
     refine s_val (v_move (v := .bool _) rfl) ?_
     refine s_val (v_not rfl) ?_
     refine s_nil ?_
     refine c_condFh rfl rfl (congrArg not (show (!(doM (doM t.s failA).1 closeA).1.down) = true from (by rw [h5.2.up]; rfl))) ?_
     refine c_skip ?_
     refine n_then ?_
     refine f_seq (T := (row 60 (Eqv (.pointer (some ⟨b14, 0, none⟩))) (row 61 ((HouseR (doM (doM t.s failA).1 closeA).1)) (row 62 (Eqv (.agg h30.cells)) (row 63 (Eqv (.bool true)) (row 64 (Eqv (.bool false)) (fun _ => Any))))))) (by kernel_rfl) (by kernel_rfl) (by kernel_rfl) (row_mono (eqv_mono _) (row_mono (houseR_mono _) (row_mono (eqv_mono _) (row_mono (eqv_mono _) (row_mono (eqv_mono _) (fun _ => any_mono)))))) ⟨?_, ?_, ?_, ?_, ?_, trivial⟩ ?_
     · refine ob_free (fun g w hw hl => ?_)
       have e3 : g 3 = .pointer (some ⟨b14, 0, none⟩) := (hl 3 (of_decide_eq_true (by kernel_rfl))).2 (of_decide_eq_true (by kernel_rfl))
       exact x_val (v_move (v := .pointer (some ⟨b14, 0, none⟩)) e3) hw rfl
     · refine ob_free (fun g w hw hl => ?_)
       have e60 : g 60 = .pointer (some ⟨b14, 0, none⟩) := (hl 60 (of_decide_eq_true (by kernel_rfl))).1 (of_decide_eq_true (by kernel_rfl))
       exact x_callF (vs := [.pointer (some ⟨b14, 0, none⟩)]) (by kernel_rfl) (by show [g 60] = _; rw [e60]) ((bk.house w b14 B38 _ ((hgt.act _).act _) (bk.mono hr38 hw.at) (lies_of hw (fun _ hq => (List.mem_cons_of_mem _ (List.mem_append_right _ (List.mem_append_left _ hq)))))).toF (fun F v E hk hl => houseR_of hk hl)) (fun w' v hb hr => houseR_mono _ _ _ _ (fresh_at _ _) hr)
     · refine ob_free (fun g w hw hl => ?_)
       have e7 : g 7 = .pointer (some ⟨b7, 0, none⟩) := (hl 7 (of_decide_eq_true (by kernel_rfl))).2 (of_decide_eq_true (by kernel_rfl))
       exact x_val (v_loadA (m := 42) (by kernel_rfl) e7 (.there (.app (.app (.app .here)))) (H.size _)) hw rfl
     · refine ob_free (fun g w hw hl => ?_)
       obtain ⟨h61, e61, c61, p61, l61⟩ := (show (HouseR (doM (doM t.s failA).1 closeA).1) (At w) (g 61) from (hl 61 (of_decide_eq_true (by kernel_rfl))).1 (of_decide_eq_true (by kernel_rfl)))
       have e62 : g 62 = .agg h30.cells := (hl 62 (of_decide_eq_true (by kernel_rfl))).1 (of_decide_eq_true (by kernel_rfl))
       exact x_call (v := .bool true) (vs := [.agg h61.cells, .agg h30.cells]) (by kernel_rfl) (by show [g 61, g 62] = _; rw [e61, e62]) (by have hq := p61; rw [(h5.2.trans hlk).ps] at hq; have hh := gt_sameHouse h61 (playM newB (xs.take 80)).ps h30 (playM newB (xs.take 80)).ps w hq ((((hp30.mono hmt).mono hF35).mono hF38).at hw) (by have := hq.1; have := hp30.1; omega); rw [same_core (c61.trans ((h5.2.trans hlk).c.trans hc30.symm)) (hq.1.symm.trans hp30.1)] at hh; exact hh) (fun _ => rfl)
     · refine ob_free (fun g w hw hl => ?_)
       have e63 : g 63 = .bool true := (hl 63 (of_decide_eq_true (by kernel_rfl))).1 (of_decide_eq_true (by kernel_rfl))
       exact x_val (v_not e63) hw rfl
     intro g w hw hd he
     have e3 : g 3 = .pointer (some ⟨b14, 0, none⟩) := he 3 (of_decide_eq_true (by kernel_rfl))
     have e7 : g 7 = .pointer (some ⟨b7, 0, none⟩) := he 7 (of_decide_eq_true (by kernel_rfl))
     have e31 : g 31 = I t.k := he 31 (of_decide_eq_true (by kernel_rfl))
     have e64 : g 64 = .bool false := hd 64 (of_decide_eq_true (by kernel_rfl))
     obtain ⟨g1, hg1⟩ : ∃ g1, g = (upd (upd (upd (upd g1 3 (.pointer (some ⟨b14, 0, none⟩))) 7 (.pointer (some ⟨b7, 0, none⟩))) 31 (I t.k)) 64 (.bool false)) := ⟨g, live4 e3 e7 e31 e64⟩
     rw [hg1]
     refine cC_at ?_ hw
     refine c_condFh rfl rfl rfl ?_
     refine c_skip ?_
     refine n_bnormal ?_
     refine n_then ?_
     refine r_list (by kernel_rfl) ?_
     refine s_val (v_add rfl rfl (by omega)) ?_
     refine s_val (v_move (v := .int .i64 _) rfl) ?_
     refine s_end ?_
     refine n_round (s := t) ⟨t.k + 1, F38, (doM (doM t.s failA).1 closeA).1, B38⟩ ⟨_, ⟨by dsimp only; omega, fun a v h => hF38 a v (hF35 a v (hmt a v h)), (hgt.act _).act _, hr38, (h5.2.trans hlk).mono (by dsimp only; omega)⟩, live3 rfl rfl rfl⟩ (fun _ hw => hw.sub (List.Sublist.cons _ (List.Sublist.trans (List.Sublist.append (List.Sublist.refl _) (List.Sublist.trans (List.Sublist.cons_cons _ (List.Sublist.refl _)) (List.sublist_append_right _ _))) (List.sublist_append_right _ _)))) (by dsimp only; omega)
   have h7 := hbr.resolve_right (fun h => by have := of_decide_eq_true h42; have := h.1; omega)
   refine s_pass rfl rfl (congrArg not h42) ?_
   refine s_pass rfl rfl (congrArg not h42) ?_
   refine s_pass rfl rfl (congrArg not h42) ?_
   refine s_val (v_pickF (v := .bool _) rfl (congrArg not h42) rfl) ?_
   refine s_nil ?_
   refine c_condFh rfl rfl rfl ?_
   refine c_skip ?_
   refine n_then ?_
   refine c_seq ?_
   refine r_seq (by kernel_rfl) ?_
   refine s_val (v_move (v := .pointer _) rfl) ?_
   refine s_call (by kernel_rfl) (fun w hw => bk.book w b14 B38 _ ((hgt.act _).act _) (bk.mono hr38 hw.at) (lies_of hw (fun _ hq => (List.mem_cons_of_mem _ (List.mem_append_right _ (List.mem_append_left _ hq)))))) ?_
   refine s_val (v_move (v := .tuple _) rfl) ?_
   refine s_val (v_extract rfl rfl) ?_
   refine s_val (v_extract rfl rfl) ?_
   refine s_val (v_assign (v := S _) rfl) ?_
   refine s_val (v_assign (v := .bool _) rfl) ?_
   refine s_nil ?_
   refine r_seq (by kernel_rfl) ?_
   refine s_val (v_move (v := .bool _) rfl) ?_
   refine s_val (v_not rfl) ?_
   refine s_nil ?_
   refine c_condTh rfl rfl (congrArg not (show (!(doM (doM t.s failA).1 closeA).1.down) = false from (by rw [h7.2.1]; rfl))) ?_
   refine r_seq (by kernel_rfl) ?_
   refine s_val (v_move (v := .pointer _) rfl) ?_
   refine s_val (v_build (vs := [(0, .int .i64 _)]) (cs := openA.cells) rfl (by kernel_rfl)) ?_
   refine s_weak (fun w1 hw => hw.perm (List.Perm.cons _ (perm_front (A := E38) (E := B38)))) ?_
   refine s_weak (fun w1 hw => hw.perm List.perm_middle.symm) ?_
   refine s_do bk ((hgt.act _).act _) hr38 rfl rfl (fun F56 v56 E56 B56 hF56 hi56 hr56 => ?_)
   obtain ⟨a56, c56, rfl, hl56, ho56⟩ := hi56
   refine s_alloc (z := .agg (repC 0 0 (.slice none 0 0))) (by kernel_rfl) (fun b11 => ?_)
   refine s_storeA (m := 3) (by kernel_rfl) rfl rfl .here rfl rfl rep_all ?_
   refine s_nil ?_
   refine r_seq (by kernel_rfl) ?_
   refine s_val (v_field (fo := 0) (by kernel_rfl) rfl) ?_
   refine s_val (v_load1 (v := .int .i64 _) (by kernel_rfl) rfl .here rfl) ?_
   refine s_val (v_neq (k := .i64) rfl rfl) ?_
   refine s_nil ?_
   refine c_condFh rfl rfl (congrArg not (decide_eq_true h7.2.2.1)) ?_
   refine c_skip ?_
   refine n_then ?_
   refine f_seq (T := (row 60 (Eqv (.pointer (some ⟨b14, 0, none⟩))) (row 61 ((HouseR (doM (doM (doM t.s failA).1 closeA).1 openA).1)) (row 62 (Eqv (.agg h30.cells)) (row 63 (Eqv (.bool true)) (row 64 (Eqv (.bool false)) (fun _ => Any))))))) (by kernel_rfl) (by kernel_rfl) (by kernel_rfl) (row_mono (eqv_mono _) (row_mono (houseR_mono _) (row_mono (eqv_mono _) (row_mono (eqv_mono _) (row_mono (eqv_mono _) (fun _ => any_mono)))))) ⟨?_, ?_, ?_, ?_, ?_, trivial⟩ ?_
   · refine ob_free (fun g w hw hl => ?_)
     have e3 : g 3 = .pointer (some ⟨b14, 0, none⟩) := (hl 3 (of_decide_eq_true (by kernel_rfl))).2 (of_decide_eq_true (by kernel_rfl))
     exact x_val (v_move (v := .pointer (some ⟨b14, 0, none⟩)) e3) hw rfl
   · refine ob_free (fun g w hw hl => ?_)
     have e60 : g 60 = .pointer (some ⟨b14, 0, none⟩) := (hl 60 (of_decide_eq_true (by kernel_rfl))).1 (of_decide_eq_true (by kernel_rfl))
     exact x_callF (vs := [.pointer (some ⟨b14, 0, none⟩)]) (by kernel_rfl) (by show [g 60] = _; rw [e60]) ((bk.house w b14 B56 _ (((hgt.act _).act _).act _) (bk.mono hr56 hw.at) (lies_of hw (fun _ hq => (List.mem_cons_of_mem _ (List.mem_append_right _ (List.mem_append_left _ hq)))))).toF (fun F v E hk hl => houseR_of hk hl)) (fun w' v hb hr => houseR_mono _ _ _ _ (fresh_at _ _) hr)
   · refine ob_free (fun g w hw hl => ?_)
     have e7 : g 7 = .pointer (some ⟨b7, 0, none⟩) := (hl 7 (of_decide_eq_true (by kernel_rfl))).2 (of_decide_eq_true (by kernel_rfl))
     exact x_val (v_loadA (m := 42) (by kernel_rfl) e7 (.there (.app (.app (.there (.app (.app .here)))))) (H.size _)) hw rfl
   · refine ob_free (fun g w hw hl => ?_)
     obtain ⟨h61, e61, c61, p61, l61⟩ := (show (HouseR (doM (doM (doM t.s failA).1 closeA).1 openA).1) (At w) (g 61) from (hl 61 (of_decide_eq_true (by kernel_rfl))).1 (of_decide_eq_true (by kernel_rfl)))
     have e62 : g 62 = .agg h30.cells := (hl 62 (of_decide_eq_true (by kernel_rfl))).1 (of_decide_eq_true (by kernel_rfl))
     exact x_call (v := .bool true) (vs := [.agg h61.cells, .agg h30.cells]) (by kernel_rfl) (by show [g 61, g 62] = _; rw [e61, e62]) (by have hq := p61; rw [(h7.2.2.2.trans hlk).ps] at hq; have hh := gt_sameHouse h61 (playM newB (xs.take 80)).ps h30 (playM newB (xs.take 80)).ps w hq (((((hp30.mono hmt).mono hF35).mono hF38).mono hF56).at hw) (by have := hq.1; have := hp30.1; omega); rw [same_core (c61.trans ((h7.2.2.2.trans hlk).c.trans hc30.symm)) (hq.1.symm.trans hp30.1)] at hh; exact hh) (fun _ => rfl)
   · refine ob_free (fun g w hw hl => ?_)
     have e63 : g 63 = .bool true := (hl 63 (of_decide_eq_true (by kernel_rfl))).1 (of_decide_eq_true (by kernel_rfl))
     exact x_val (v_not e63) hw rfl
   intro g w hw hd he
   have e3 : g 3 = .pointer (some ⟨b14, 0, none⟩) := he 3 (of_decide_eq_true (by kernel_rfl))
   have e7 : g 7 = .pointer (some ⟨b7, 0, none⟩) := he 7 (of_decide_eq_true (by kernel_rfl))
   have e31 : g 31 = I t.k := he 31 (of_decide_eq_true (by kernel_rfl))
   have e64 : g 64 = .bool false := hd 64 (of_decide_eq_true (by kernel_rfl))
   obtain ⟨g1, hg1⟩ : ∃ g1, g = (upd (upd (upd (upd g1 3 (.pointer (some ⟨b14, 0, none⟩))) 7 (.pointer (some ⟨b7, 0, none⟩))) 31 (I t.k)) 64 (.bool false)) := ⟨g, live4 e3 e7 e31 e64⟩
   rw [hg1]
   refine cC_at ?_ hw
   refine c_condFh rfl rfl rfl ?_
   refine c_skip ?_
   refine n_bnormal ?_
   refine n_then ?_
   refine r_list (by kernel_rfl) ?_
   refine s_val (v_add rfl rfl (by omega)) ?_
   refine s_val (v_move (v := .int .i64 _) rfl) ?_
   refine s_end ?_
   refine n_round (s := t) ⟨t.k + 1, F56, (doM (doM (doM t.s failA).1 closeA).1 openA).1, B56⟩ ⟨_, ⟨by dsimp only; omega, fun a v h => hF56 a v (hF38 a v (hF35 a v (hmt a v h))), ((hgt.act _).act _).act _, hr56, (h7.2.2.2.trans hlk).mono (by dsimp only; omega)⟩, live3 rfl rfl rfl⟩ (fun _ hw => hw.sub (List.Sublist.cons _ (List.Sublist.trans (List.Sublist.append (List.Sublist.refl _) (List.Sublist.cons _ (List.Sublist.trans (List.Sublist.trans (List.Sublist.cons_cons _ (List.Sublist.refl _)) (List.sublist_append_right _ _)) (List.sublist_append_right _ _)))) (List.sublist_append_right _ _)))) (by dsimp only; omega)
 have hd0 : (playM newB (xs.take 80)).down = true := by simpa using h25
 refine r_list (by kernel_rfl) ?_
 refine s_val (v_move (v := .pointer _) rfl) ?_
 refine s_val (v_build (vs := [(0, .int .i64 _)]) (cs := openA.cells) rfl (by kernel_rfl)) ?_
 refine s_do bk hg14 hr14 rfl rfl (fun F28 v28 E28 B28 hF28 hi28 hr28 => ?_)
 obtain ⟨a28, c28, rfl, hl28, ho28⟩ := hi28
 refine s_end ?_
 refine n_then ?_
 have hup : (doM (playM newB (xs.take 80)) openA).1.down = false := (first_open hd0 (by omega)).1
 have hac : (doM (playM newB (xs.take 80)) openA).1.acts ≤ 81 := by rw [(first_open hd0 (by omega)).2]; omega
 refine r_seq (by kernel_rfl) ?_
 refine s_val (v_move (v := .pointer _) rfl) ?_
 refine s_callF (by kernel_rfl) (fun w hw => bk.house w b14 B28 _ (hg14.act openA) (bk.mono hr28 hw.at) (lies_of hw (fun _ hq => (List.mem_append_right _ (List.mem_append_left _ hq))))) (fun F30 v30 E30 hF30 hK30 hR30 => ?_)
 obtain ⟨h30, rfl, hc30, ho30⟩ := hR30
 have hp30 := ho30.known hK30
 have hlc30 := ho30.2.1
 have hl2430 : h30.pl ≤ 24 := by have := (bgood_inv (hg14.act openA)).1.len; have := hp30.1; omega
 refine s_alloc (z := .agg zeroH.cells) (by kernel_rfl) (fun b7 => ?_)
 refine s_storeA (m := 42) (by kernel_rfl) rfl rfl .here (H.size _) (H.size _) (H.all1 _) ?_
 refine s_nil ?_
 refine c_seq ?_
 refine r_seq (by kernel_rfl) ?_
 refine s_val (v_move (v := .int .i64 _) rfl) ?_
 refine s_nil ?_
 refine c_block ?_
 refine c_loop (σ := BkG) (fun (t : BkG) f => ∃ g, (t.k ≤ 2 ∧ More F30 t.F ∧ BGood t.s ∧ bk.Rep t.F b14 t.B t.s ∧ Like t.s (doM (playM newB (xs.take 80)) openA).1 (3 * t.k)) ∧ f = (upd (upd (upd g 3 (.pointer (some ⟨b14, 0, none⟩))) 7 (.pointer (some ⟨b7, 0, none⟩))) 31 (I t.k))) (fun (t : BkG) => Has w t.F (t.B ++ ((b7, .cells h30.cells 41) :: []))) (fun (t : BkG) => 2 - t.k) ⟨0, F30, (doM (playM newB (xs.take 80)) openA).1, B28⟩ ⟨_, ⟨Nat.zero_le _, fun _ _ h => h, (hg14.act openA), bk.mono hr28 hF30, ⟨rfl, rfl, hup, Nat.le_add_right _ _⟩⟩, live3 rfl rfl rfl⟩ (fun w1 hw => (hw.sub (List.Sublist.cons_cons _ (List.Sublist.trans (List.Sublist.append (List.Sublist.refl _) (List.Sublist.refl _)) (List.sublist_append_right _ _)))).perm List.perm_middle.symm) ?_
 rintro t _ ⟨g, ⟨hkl, hmt, hgt, hrt, hlk⟩, rfl⟩
 refine r_seq (by kernel_rfl) ?_
 refine s_val (v_lss (k := .i64) rfl rfl) ?_
 refine s_nil ?_
 refine c_seq ?_
 refine c_condR rfl rfl (fun h32 => ?_) (fun h32 => ?_)
 · refine c_exit ?_
   refine n_exit ?_
   refine n_exit ?_
   refine n_bhere ?_
   refine n_then ?_
   refine r_seq (by kernel_rfl) ?_
   refine s_val (v_assign (v := .bool _) rfl) ?_
   refine s_nil ?_
   refine c_ret ?_
   refine n_done rfl (by decide) (Eq.trans (b := .bool _) rfl (congrArg Value.bool ?_))
   rfl
 have hk0 := of_decide_eq_true h32
 have hbr := book_round hgt hlk.up (by have := hlk.acts; omega)
 refine c_skip ?_
 refine n_then ?_
 refine c_seq ?_
 refine c_block ?_
 refine r_seq (by kernel_rfl) ?_
 refine s_val (v_move (v := .pointer _) rfl) ?_
 refine s_val (v_build (vs := [(0, .int .i64 _)]) (cs := failA.cells) rfl (by kernel_rfl)) ?_
 refine s_do bk hgt hrt rfl rfl (fun F35 v35 E35 B35 hF35 hi35 hr35 => ?_)
 obtain ⟨a35, c35, rfl, hl35, ho35⟩ := hi35
 refine s_nil ?_
 refine c_seq ?_
 refine r_seq (by kernel_rfl) ?_
 refine s_val (v_move (v := .pointer _) rfl) ?_
 refine s_val (v_build (vs := [(0, .int .i64 _)]) (cs := closeA.cells) rfl (by kernel_rfl)) ?_
 refine s_weak (fun w1 hw => hw.perm (perm_front (A := E35) (E := B35))) ?_
 refine s_do bk (hgt.act _) hr35 rfl rfl (fun F38 v38 E38 B38 hF38 hi38 hr38 => ?_)
 obtain ⟨a38, c38, rfl, hl38, ho38⟩ := hi38
 refine s_alloc (z := .agg (repC 0 0 (.slice none 0 0))) (by kernel_rfl) (fun b8 => ?_)
 refine s_storeA (m := 3) (by kernel_rfl) rfl rfl .here rfl rfl rep_all ?_
 refine s_nil ?_
 refine r_seq (by kernel_rfl) ?_
 refine s_val (v_field (fo := 0) (by kernel_rfl) rfl) ?_
 refine s_val (v_load1 (v := .int .i64 _) (by kernel_rfl) rfl .here rfl) ?_
 refine s_val (v_neq (k := .i64) rfl rfl) ?_
 refine s_val (v_move (v := .bool _) rfl) ?_
 refine s_splitN (s := 42) rfl (fun h42 => ?_) (fun h42 => ?_)
 · have h5 := hbr.resolve_left (fun h => absurd h.1 (of_decide_eq_false h42))
   refine s_want rfl rfl (congrArg not h42) ?_
   refine s_val (v_field (fo := 0) (by kernel_rfl) rfl) ?_
   refine s_want rfl rfl (congrArg not h42) ?_
   refine s_val (v_load1 (v := .int .i64 _) (by kernel_rfl) rfl .here rfl) ?_
   refine s_want rfl rfl (congrArg not h42) ?_
   refine s_val (v_neq (k := .i64) rfl rfl) ?_
   refine s_val (v_pickT (v := .bool _) rfl (congrArg not h42) rfl) ?_
   refine s_nil ?_
   refine c_condFh rfl rfl (congrArg not (decide_eq_true h5.1)) ?_
   refine c_skip ?_
   refine n_then ?_
   refine c_seq ?_
   refine r_seq (by kernel_rfl) ?_
   refine s_val (v_move (v := .pointer _) rfl) ?_
   refine s_call (by kernel_rfl) (fun w hw => bk.book w b14 B38 _ ((hgt.act _).act _) (bk.mono hr38 hw.at) (lies_of hw (fun _ hq => (List.mem_cons_of_mem _ (List.mem_append_right _ (List.mem_append_left _ hq)))))) ?_
   refine s_val (v_move (v := .tuple _) rfl) ?_
   refine s_val (v_extract rfl rfl) ?_
   refine s_val (v_extract rfl rfl) ?_
   refine s_val (v_assign (v := S _) rfl) ?_
   refine s_val (v_assign (v := .bool _) rfl) ?_
   refine s_nil ?_
   refine r_seq (by kernel_rfl) ?_
   refine s_val (v_move (v := .bool _) rfl) ?_
   refine s_val (v_not rfl) ?_
   refine s_nil ?_
   refine c_condFh rfl rfl (congrArg not (show (!(doM (doM t.s failA).1 closeA).1.down) = true from (by rw [h5.2.up]; rfl))) ?_
   refine c_skip ?_
   refine n_then ?_
   refine f_seq (T := (row 60 (Eqv (.pointer (some ⟨b14, 0, none⟩))) (row 61 ((HouseR (doM (doM t.s failA).1 closeA).1)) (row 62 (Eqv (.agg h30.cells)) (row 63 (Eqv (.bool true)) (row 64 (Eqv (.bool false)) (fun _ => Any))))))) (by kernel_rfl) (by kernel_rfl) (by kernel_rfl) (row_mono (eqv_mono _) (row_mono (houseR_mono _) (row_mono (eqv_mono _) (row_mono (eqv_mono _) (row_mono (eqv_mono _) (fun _ => any_mono)))))) ⟨?_, ?_, ?_, ?_, ?_, trivial⟩ ?_
   · refine ob_free (fun g w hw hl => ?_)
     have e3 : g 3 = .pointer (some ⟨b14, 0, none⟩) := (hl 3 (of_decide_eq_true (by kernel_rfl))).2 (of_decide_eq_true (by kernel_rfl))
     exact x_val (v_move (v := .pointer (some ⟨b14, 0, none⟩)) e3) hw rfl
   · refine ob_free (fun g w hw hl => ?_)
     have e60 : g 60 = .pointer (some ⟨b14, 0, none⟩) := (hl 60 (of_decide_eq_true (by kernel_rfl))).1 (of_decide_eq_true (by kernel_rfl))
     exact x_callF (vs := [.pointer (some ⟨b14, 0, none⟩)]) (by kernel_rfl) (by show [g 60] = _; rw [e60]) ((bk.house w b14 B38 _ ((hgt.act _).act _) (bk.mono hr38 hw.at) (lies_of hw (fun _ hq => (List.mem_cons_of_mem _ (List.mem_append_right _ (List.mem_append_left _ hq)))))).toF (fun F v E hk hl => houseR_of hk hl)) (fun w' v hb hr => houseR_mono _ _ _ _ (fresh_at _ _) hr)
   · refine ob_free (fun g w hw hl => ?_)
     have e7 : g 7 = .pointer (some ⟨b7, 0, none⟩) := (hl 7 (of_decide_eq_true (by kernel_rfl))).2 (of_decide_eq_true (by kernel_rfl))
     exact x_val (v_loadA (m := 42) (by kernel_rfl) e7 (.there (.app (.app (.app .here)))) (H.size _)) hw rfl
   · refine ob_free (fun g w hw hl => ?_)
     obtain ⟨h61, e61, c61, p61, l61⟩ := (show (HouseR (doM (doM t.s failA).1 closeA).1) (At w) (g 61) from (hl 61 (of_decide_eq_true (by kernel_rfl))).1 (of_decide_eq_true (by kernel_rfl)))
     have e62 : g 62 = .agg h30.cells := (hl 62 (of_decide_eq_true (by kernel_rfl))).1 (of_decide_eq_true (by kernel_rfl))
     exact x_call (v := .bool true) (vs := [.agg h61.cells, .agg h30.cells]) (by kernel_rfl) (by show [g 61, g 62] = _; rw [e61, e62]) (by have hq := p61; rw [(h5.2.trans hlk).ps] at hq; have hh := gt_sameHouse h61 (doM (playM newB (xs.take 80)) openA).1.ps h30 (doM (playM newB (xs.take 80)) openA).1.ps w hq ((((hp30.mono hmt).mono hF35).mono hF38).at hw) (by have := hq.1; have := hp30.1; omega); rw [same_core (c61.trans ((h5.2.trans hlk).c.trans hc30.symm)) (hq.1.symm.trans hp30.1)] at hh; exact hh) (fun _ => rfl)
   · refine ob_free (fun g w hw hl => ?_)
     have e63 : g 63 = .bool true := (hl 63 (of_decide_eq_true (by kernel_rfl))).1 (of_decide_eq_true (by kernel_rfl))
     exact x_val (v_not e63) hw rfl
   intro g w hw hd he
   have e3 : g 3 = .pointer (some ⟨b14, 0, none⟩) := he 3 (of_decide_eq_true (by kernel_rfl))
   have e7 : g 7 = .pointer (some ⟨b7, 0, none⟩) := he 7 (of_decide_eq_true (by kernel_rfl))
   have e31 : g 31 = I t.k := he 31 (of_decide_eq_true (by kernel_rfl))
   have e64 : g 64 = .bool false := hd 64 (of_decide_eq_true (by kernel_rfl))
   obtain ⟨g1, hg1⟩ : ∃ g1, g = (upd (upd (upd (upd g1 3 (.pointer (some ⟨b14, 0, none⟩))) 7 (.pointer (some ⟨b7, 0, none⟩))) 31 (I t.k)) 64 (.bool false)) := ⟨g, live4 e3 e7 e31 e64⟩
   rw [hg1]
   refine cC_at ?_ hw
   refine c_condFh rfl rfl rfl ?_
   refine c_skip ?_
   refine n_bnormal ?_
   refine n_then ?_
   refine r_list (by kernel_rfl) ?_
   refine s_val (v_add rfl rfl (by omega)) ?_
   refine s_val (v_move (v := .int .i64 _) rfl) ?_
   refine s_end ?_
   refine n_round (s := t) ⟨t.k + 1, F38, (doM (doM t.s failA).1 closeA).1, B38⟩ ⟨_, ⟨by dsimp only; omega, fun a v h => hF38 a v (hF35 a v (hmt a v h)), (hgt.act _).act _, hr38, (h5.2.trans hlk).mono (by dsimp only; omega)⟩, live3 rfl rfl rfl⟩ (fun _ hw => hw.sub (List.Sublist.cons _ (List.Sublist.trans (List.Sublist.append (List.Sublist.refl _) (List.Sublist.trans (List.Sublist.cons_cons _ (List.Sublist.refl _)) (List.sublist_append_right _ _))) (List.sublist_append_right _ _)))) (by dsimp only; omega)
 have h7 := hbr.resolve_right (fun h => by have := of_decide_eq_true h42; have := h.1; omega)
 refine s_pass rfl rfl (congrArg not h42) ?_
 refine s_pass rfl rfl (congrArg not h42) ?_
 refine s_pass rfl rfl (congrArg not h42) ?_
 refine s_val (v_pickF (v := .bool _) rfl (congrArg not h42) rfl) ?_
 refine s_nil ?_
 refine c_condFh rfl rfl rfl ?_
 refine c_skip ?_
 refine n_then ?_
 refine c_seq ?_
 refine r_seq (by kernel_rfl) ?_
 refine s_val (v_move (v := .pointer _) rfl) ?_
 refine s_call (by kernel_rfl) (fun w hw => bk.book w b14 B38 _ ((hgt.act _).act _) (bk.mono hr38 hw.at) (lies_of hw (fun _ hq => (List.mem_cons_of_mem _ (List.mem_append_right _ (List.mem_append_left _ hq)))))) ?_
 refine s_val (v_move (v := .tuple _) rfl) ?_
 refine s_val (v_extract rfl rfl) ?_
 refine s_val (v_extract rfl rfl) ?_
 refine s_val (v_assign (v := S _) rfl) ?_
 refine s_val (v_assign (v := .bool _) rfl) ?_
 refine s_nil ?_
 refine r_seq (by kernel_rfl) ?_
 refine s_val (v_move (v := .bool _) rfl) ?_
 refine s_val (v_not rfl) ?_
 refine s_nil ?_
 refine c_condTh rfl rfl (congrArg not (show (!(doM (doM t.s failA).1 closeA).1.down) = false from (by rw [h7.2.1]; rfl))) ?_
 refine r_seq (by kernel_rfl) ?_
 refine s_val (v_move (v := .pointer _) rfl) ?_
 refine s_val (v_build (vs := [(0, .int .i64 _)]) (cs := openA.cells) rfl (by kernel_rfl)) ?_
 refine s_weak (fun w1 hw => hw.perm (List.Perm.cons _ (perm_front (A := E38) (E := B38)))) ?_
 refine s_weak (fun w1 hw => hw.perm List.perm_middle.symm) ?_
 refine s_do bk ((hgt.act _).act _) hr38 rfl rfl (fun F56 v56 E56 B56 hF56 hi56 hr56 => ?_)
 obtain ⟨a56, c56, rfl, hl56, ho56⟩ := hi56
 refine s_alloc (z := .agg (repC 0 0 (.slice none 0 0))) (by kernel_rfl) (fun b11 => ?_)
 refine s_storeA (m := 3) (by kernel_rfl) rfl rfl .here rfl rfl rep_all ?_
 refine s_nil ?_
 refine r_seq (by kernel_rfl) ?_
 refine s_val (v_field (fo := 0) (by kernel_rfl) rfl) ?_
 refine s_val (v_load1 (v := .int .i64 _) (by kernel_rfl) rfl .here rfl) ?_
 refine s_val (v_neq (k := .i64) rfl rfl) ?_
 refine s_nil ?_
 refine c_condFh rfl rfl (congrArg not (decide_eq_true h7.2.2.1)) ?_
 refine c_skip ?_
 refine n_then ?_
 refine f_seq (T := (row 60 (Eqv (.pointer (some ⟨b14, 0, none⟩))) (row 61 ((HouseR (doM (doM (doM t.s failA).1 closeA).1 openA).1)) (row 62 (Eqv (.agg h30.cells)) (row 63 (Eqv (.bool true)) (row 64 (Eqv (.bool false)) (fun _ => Any))))))) (by kernel_rfl) (by kernel_rfl) (by kernel_rfl) (row_mono (eqv_mono _) (row_mono (houseR_mono _) (row_mono (eqv_mono _) (row_mono (eqv_mono _) (row_mono (eqv_mono _) (fun _ => any_mono)))))) ⟨?_, ?_, ?_, ?_, ?_, trivial⟩ ?_
 · refine ob_free (fun g w hw hl => ?_)
   have e3 : g 3 = .pointer (some ⟨b14, 0, none⟩) := (hl 3 (of_decide_eq_true (by kernel_rfl))).2 (of_decide_eq_true (by kernel_rfl))
   exact x_val (v_move (v := .pointer (some ⟨b14, 0, none⟩)) e3) hw rfl
 · refine ob_free (fun g w hw hl => ?_)
   have e60 : g 60 = .pointer (some ⟨b14, 0, none⟩) := (hl 60 (of_decide_eq_true (by kernel_rfl))).1 (of_decide_eq_true (by kernel_rfl))
   exact x_callF (vs := [.pointer (some ⟨b14, 0, none⟩)]) (by kernel_rfl) (by show [g 60] = _; rw [e60]) ((bk.house w b14 B56 _ (((hgt.act _).act _).act _) (bk.mono hr56 hw.at) (lies_of hw (fun _ hq => (List.mem_cons_of_mem _ (List.mem_append_right _ (List.mem_append_left _ hq)))))).toF (fun F v E hk hl => houseR_of hk hl)) (fun w' v hb hr => houseR_mono _ _ _ _ (fresh_at _ _) hr)
 · refine ob_free (fun g w hw hl => ?_)
   have e7 : g 7 = .pointer (some ⟨b7, 0, none⟩) := (hl 7 (of_decide_eq_true (by kernel_rfl))).2 (of_decide_eq_true (by kernel_rfl))
   exact x_val (v_loadA (m := 42) (by kernel_rfl) e7 (.there (.app (.app (.there (.app (.app .here)))))) (H.size _)) hw rfl
 · refine ob_free (fun g w hw hl => ?_)
   obtain ⟨h61, e61, c61, p61, l61⟩ := (show (HouseR (doM (doM (doM t.s failA).1 closeA).1 openA).1) (At w) (g 61) from (hl 61 (of_decide_eq_true (by kernel_rfl))).1 (of_decide_eq_true (by kernel_rfl)))
   have e62 : g 62 = .agg h30.cells := (hl 62 (of_decide_eq_true (by kernel_rfl))).1 (of_decide_eq_true (by kernel_rfl))
   exact x_call (v := .bool true) (vs := [.agg h61.cells, .agg h30.cells]) (by kernel_rfl) (by show [g 61, g 62] = _; rw [e61, e62]) (by have hq := p61; rw [(h7.2.2.2.trans hlk).ps] at hq; have hh := gt_sameHouse h61 (doM (playM newB (xs.take 80)) openA).1.ps h30 (doM (playM newB (xs.take 80)) openA).1.ps w hq (((((hp30.mono hmt).mono hF35).mono hF38).mono hF56).at hw) (by have := hq.1; have := hp30.1; omega); rw [same_core (c61.trans ((h7.2.2.2.trans hlk).c.trans hc30.symm)) (hq.1.symm.trans hp30.1)] at hh; exact hh) (fun _ => rfl)
 · refine ob_free (fun g w hw hl => ?_)
   have e63 : g 63 = .bool true := (hl 63 (of_decide_eq_true (by kernel_rfl))).1 (of_decide_eq_true (by kernel_rfl))
   exact x_val (v_not e63) hw rfl
 intro g w hw hd he
 have e3 : g 3 = .pointer (some ⟨b14, 0, none⟩) := he 3 (of_decide_eq_true (by kernel_rfl))
 have e7 : g 7 = .pointer (some ⟨b7, 0, none⟩) := he 7 (of_decide_eq_true (by kernel_rfl))
 have e31 : g 31 = I t.k := he 31 (of_decide_eq_true (by kernel_rfl))
 have e64 : g 64 = .bool false := hd 64 (of_decide_eq_true (by kernel_rfl))
 obtain ⟨g1, hg1⟩ : ∃ g1, g = (upd (upd (upd (upd g1 3 (.pointer (some ⟨b14, 0, none⟩))) 7 (.pointer (some ⟨b7, 0, none⟩))) 31 (I t.k)) 64 (.bool false)) := ⟨g, live4 e3 e7 e31 e64⟩
 rw [hg1]
 refine cC_at ?_ hw
 refine c_condFh rfl rfl rfl ?_
 refine c_skip ?_
 refine n_bnormal ?_
 refine n_then ?_
 refine r_list (by kernel_rfl) ?_
 refine s_val (v_add rfl rfl (by omega)) ?_
 refine s_val (v_move (v := .int .i64 _) rfl) ?_
 refine s_end ?_
 refine n_round (s := t) ⟨t.k + 1, F56, (doM (doM (doM t.s failA).1 closeA).1 openA).1, B56⟩ ⟨_, ⟨by dsimp only; omega, fun a v h => hF56 a v (hF38 a v (hF35 a v (hmt a v h))), ((hgt.act _).act _).act _, hr56, (h7.2.2.2.trans hlk).mono (by dsimp only; omega)⟩, live3 rfl rfl rfl⟩ (fun _ hw => hw.sub (List.Sublist.cons _ (List.Sublist.trans (List.Sublist.append (List.Sublist.refl _) (List.Sublist.cons _ (List.Sublist.trans (List.Sublist.trans (List.Sublist.cons_cons _ (List.Sublist.refl _)) (List.sublist_append_right _ _)) (List.sublist_append_right _ _)))) (List.sublist_append_right _ _)))) (by dsimp only; omega)
end Go.Proofs.Ytmkboljfbmlebab
