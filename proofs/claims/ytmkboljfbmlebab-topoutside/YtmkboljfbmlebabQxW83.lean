/- The law TopOutside. Condition: a bank that keeps its contracts. -/
import Derived.Test.YtmkboljfbmlebabQ13
import Derived.Test.YtmkboljfbmlebabQxW80
namespace Go.Proofs.Ytmkboljfbmlebab
open Go.RowKit
set_option linter.unusedSimpArgs false
set_option linter.unusedVariables false
set_option maxRecDepth 100000
attribute [local irreducible] cC sC nC rC qw
set_option maxHeartbeats 1000000 in
theorem look_TopOutside (bk : BankOk) (F : Addr → Value → Prop) (s : BankS) (x : ActS) (b : Nat) (B E : List (Nat × Obj)) (a1 : Option Addr) (c1 : Nat) (bn : Nat) (hg : BGood s) (hr : bk.Rep F b B (doM s x).1) : GivesW Try.prog 26 [.pointer (some ⟨b, 0, none⟩), .agg x.cells, repOf (doM s x).2 (.slice a1 (doM s x).2.done.length c1), .pointer (some ⟨bn, 0, none⟩)] F (E ++ (B ++ [(bn, .cells #[I (total s.c)] 3 (0, 0))])) (fun F2 v B' => v = .bool true ∧ B' = B ++ [(bn, .cells #[I (total (doM s x).1.c)] 3 (0, 0))]) := by
 refine givesW_of Try.func26 rfl Try.ntmps26 (by simp) (fun w K => ?_)
 refine c_weak (fun w1 hw => show Has w F (E ++ (B ++ ([(bn, .cells #[I (total s.c)] 3 (0, 0))] ++ K))) w1 from (by rw [← List.append_assoc, ← List.append_assoc, List.append_assoc E]; exact hw)) ?_
 have hg2 := hg.act x
 refine r_seq (by kernel_rfl) ?_
 refine s_box (v := .agg _) rfl (fun b5 => ?_)
 refine s_box (v := .agg _) rfl (fun b6 => ?_)
 refine s_val (v_assign (v := .bool _) rfl) ?_
 refine s_nil ?_
 refine c_seq ?_
 refine r_seq (by kernel_rfl) ?_
 refine s_val (v_field (fo := 0) (by kernel_rfl) rfl) ?_
 refine s_val (v_load1 (v := .int .i64 _) (by kernel_rfl) rfl (.there .here) rfl) ?_
 refine s_val (v_eql (k := .i64) rfl rfl) ?_
 refine s_val (v_move (v := .bool _) rfl) ?_
 refine s_split (s := 11) rfl (fun h11 => ?_) (fun h11 => ?_)
 · refine s_pass rfl rfl h11 ?_
   refine s_pass rfl rfl h11 ?_
   refine s_pass rfl rfl h11 ?_
   refine s_val (v_pickT (v := .bool _) rfl h11 rfl) ?_
   refine s_val (v_move (v := .bool _) rfl) ?_
   refine s_pass (g := true) rfl rfl rfl ?_
   refine s_pass (g := true) rfl rfl rfl ?_
   refine s_pass (g := true) rfl rfl rfl ?_
   refine s_val (v_pickT (v := .bool _) rfl rfl rfl) ?_
   refine s_nil ?_
   refine c_condTh rfl rfl rfl ?_
   refine r_seq (by kernel_rfl) ?_
   refine s_val (v_move (v := .pointer _) rfl) ?_
   refine s_callF (by kernel_rfl) (fun w hw => bk.house w b B _ hg2 (bk.mono hr hw.at) (lies_of hw (fun _ hq => (List.mem_cons_of_mem _ (List.mem_cons_of_mem _ (List.mem_append_right _ (List.mem_append_left _ hq))))))) (fun F22 v22 E22 hF22 hK22 hR22 => ?_)
   obtain ⟨h22, rfl, hc22, ho22⟩ := hR22
   have hp22 := ho22.known hK22
   have hlc22 := ho22.2.1
   have hl2422 : h22.pl ≤ 24 := by have := (bgood_inv hg2).1.len; have := hp22.1; omega
   refine s_call (by kernel_rfl) (fun w hw => g_Sum _ w) ?_
   refine s_store1 (v := .int .i64 _) (by kernel_rfl) rfl rfl (.there (.there (.app (.app .here)))) ⟨Nat.zero_lt_one, rfl⟩ rfl ?_
   refine s_nil ?_
   refine r_seq (by kernel_rfl) ?_
   refine s_val (v_assign (v := .bool _) rfl) ?_
   refine s_nil ?_
   refine c_ret ?_
   refine n_ret ?_
   exact n_doneW (B' := B ++ [(bn, .cells #[I (total (doM s x).1.c)] 3 (0, 0))]) rfl (by decide) hF22 (fun w1 hw => by rw [List.append_assoc, ← sum_bank hg2 hc22]; exact hw.sub (List.Sublist.cons _ (List.Sublist.cons _ (List.Sublist.trans (List.Sublist.refl _) (List.sublist_append_right _ _))))) ⟨rfl, rfl⟩
 refine s_want rfl rfl h11 ?_
 refine s_val (v_field (fo := 0) (by kernel_rfl) rfl) ?_
 refine s_want rfl rfl h11 ?_
 refine s_val (v_load1 (v := .int .i64 _) (by kernel_rfl) rfl (.there .here) rfl) ?_
 refine s_want rfl rfl h11 ?_
 refine s_val (v_eql (k := .i64) rfl rfl) ?_
 refine s_val (v_pickF (v := .bool _) rfl h11 rfl) ?_
 refine s_val (v_move (v := .bool _) rfl) ?_
 refine s_split (s := 16) rfl (fun h16 => ?_) (fun h16 => ?_)
 · refine s_pass rfl rfl h16 ?_
   refine s_pass rfl rfl h16 ?_
   refine s_pass rfl rfl h16 ?_
   refine s_val (v_pickT (v := .bool _) rfl h16 rfl) ?_
   refine s_nil ?_
   refine c_condTh rfl rfl rfl ?_
   refine r_seq (by kernel_rfl) ?_
   refine s_val (v_move (v := .pointer _) rfl) ?_
   refine s_callF (by kernel_rfl) (fun w hw => bk.house w b B _ hg2 (bk.mono hr hw.at) (lies_of hw (fun _ hq => (List.mem_cons_of_mem _ (List.mem_cons_of_mem _ (List.mem_append_right _ (List.mem_append_left _ hq))))))) (fun F22 v22 E22 hF22 hK22 hR22 => ?_)
   obtain ⟨h22, rfl, hc22, ho22⟩ := hR22
   have hp22 := ho22.known hK22
   have hlc22 := ho22.2.1
   have hl2422 : h22.pl ≤ 24 := by have := (bgood_inv hg2).1.len; have := hp22.1; omega
   refine s_call (by kernel_rfl) (fun w hw => g_Sum _ w) ?_
   refine s_store1 (v := .int .i64 _) (by kernel_rfl) rfl rfl (.there (.there (.app (.app .here)))) ⟨Nat.zero_lt_one, rfl⟩ rfl ?_
   refine s_nil ?_
   refine r_seq (by kernel_rfl) ?_
   refine s_val (v_assign (v := .bool _) rfl) ?_
   refine s_nil ?_
   refine c_ret ?_
   refine n_ret ?_
   exact n_doneW (B' := B ++ [(bn, .cells #[I (total (doM s x).1.c)] 3 (0, 0))]) rfl (by decide) hF22 (fun w1 hw => by rw [List.append_assoc, ← sum_bank hg2 hc22]; exact hw.sub (List.Sublist.cons _ (List.Sublist.cons _ (List.Sublist.trans (List.Sublist.refl _) (List.sublist_append_right _ _))))) ⟨rfl, rfl⟩
 refine s_want rfl rfl h16 ?_
 refine s_val (v_field (fo := 0) (by kernel_rfl) rfl) ?_
 refine s_want rfl rfl h16 ?_
 refine s_val (v_load1 (v := .int .i64 _) (by kernel_rfl) rfl .here rfl) ?_
 refine s_want rfl rfl h16 ?_
 refine s_val (v_eql (k := .i64) rfl rfl) ?_
 refine s_val (v_pickF (v := .bool _) rfl h16 rfl) ?_
 refine s_nil ?_
 refine c_cond rfl rfl (fun h20 => ?_) (fun h20 => ?_)
 · refine r_seq (by kernel_rfl) ?_
   refine s_val (v_move (v := .pointer _) rfl) ?_
   refine s_callF (by kernel_rfl) (fun w hw => bk.house w b B _ hg2 (bk.mono hr hw.at) (lies_of hw (fun _ hq => (List.mem_cons_of_mem _ (List.mem_cons_of_mem _ (List.mem_append_right _ (List.mem_append_left _ hq))))))) (fun F22 v22 E22 hF22 hK22 hR22 => ?_)
   obtain ⟨h22, rfl, hc22, ho22⟩ := hR22
   have hp22 := ho22.known hK22
   have hlc22 := ho22.2.1
   have hl2422 : h22.pl ≤ 24 := by have := (bgood_inv hg2).1.len; have := hp22.1; omega
   refine s_call (by kernel_rfl) (fun w hw => g_Sum _ w) ?_
   refine s_store1 (v := .int .i64 _) (by kernel_rfl) rfl rfl (.there (.there (.app (.app .here)))) ⟨Nat.zero_lt_one, rfl⟩ rfl ?_
   refine s_nil ?_
   refine r_seq (by kernel_rfl) ?_
   refine s_val (v_assign (v := .bool _) rfl) ?_
   refine s_nil ?_
   refine c_ret ?_
   refine n_ret ?_
   exact n_doneW (B' := B ++ [(bn, .cells #[I (total (doM s x).1.c)] 3 (0, 0))]) rfl (by decide) hF22 (fun w1 hw => by rw [List.append_assoc, ← sum_bank hg2 hc22]; exact hw.sub (List.Sublist.cons _ (List.Sublist.cons _ (List.Sublist.trans (List.Sublist.refl _) (List.sublist_append_right _ _))))) ⟨rfl, rfl⟩
 refine c_skip ?_
 refine n_then ?_
 refine c_seq ?_
 have hn10 := of_decide_eq_false h11
 have hn11 := of_decide_eq_false h16
 have hn7 := of_decide_eq_false h20
 refine r_seq (by kernel_rfl) ?_
 refine s_val (v_field (fo := 0) (by kernel_rfl) rfl) ?_
 refine s_val (v_load1 (v := .int .i64 _) (by kernel_rfl) rfl .here rfl) ?_
 refine s_val (v_eql (k := .i64) rfl rfl) ?_
 refine s_val (v_move (v := .bool _) rfl) ?_
 refine s_splitR (s := 27) rfl (fun h27 => ?_) (fun h27 => ?_)
 · refine s_pass rfl rfl h27 ?_
   refine s_pass rfl rfl h27 ?_
   refine s_pass rfl rfl h27 ?_
   refine s_val (v_pickF (v := .bool _) rfl h27 rfl) ?_
   refine s_nil ?_
   refine c_condFh rfl rfl rfl ?_
   refine c_skip ?_
   refine n_then ?_
   refine c_seq ?_
   refine r_seq (by kernel_rfl) ?_
   refine s_val (v_field (fo := 0) (by kernel_rfl) rfl) ?_
   refine s_val (v_load1 (v := .int .i64 _) (by kernel_rfl) rfl .here rfl) ?_
   refine s_val (v_eql (k := .i64) rfl rfl) ?_
   refine s_val (v_move (v := .bool _) rfl) ?_
   refine s_pass rfl rfl h27 ?_
   refine s_pass rfl rfl h27 ?_
   refine s_pass rfl rfl h27 ?_
   refine s_val (v_pickF (v := .bool _) rfl h27 rfl) ?_
   refine s_nil ?_
   refine c_condFh rfl rfl rfl ?_
   refine c_skip ?_
   refine n_then ?_
   refine f_seq (T := (row 48 (Eqv (.pointer (some ⟨b, 0, none⟩))) (row 49 ((HouseR (doM s x).1)) (row 50 (Eqv (I (total (doM s x).1.c))) (row 51 (Eqv (I (total s.c))) (row 52 (Eqv (.bool (decide (total (doM s x).1.c = (total s.c))))) (row 7 (Eqv (.bool (decide (total (doM s x).1.c = (total s.c))))) (fun _ => Any)))))))) (by kernel_rfl) (by kernel_rfl) (by kernel_rfl) (row_mono (eqv_mono _) (row_mono (houseR_mono _) (row_mono (eqv_mono _) (row_mono (eqv_mono _) (row_mono (eqv_mono _) (row_mono (eqv_mono _) (fun _ => any_mono))))))) ⟨?_, ?_, ?_, ?_, ?_, ?_, trivial⟩ ?_
   · refine ob_free (fun g w hw hl => ?_)
     have e0 : g 0 = .pointer (some ⟨b, 0, none⟩) := (hl 0 (of_decide_eq_true (by kernel_rfl))).2 (of_decide_eq_true (by kernel_rfl))
     exact x_val (v_move (v := .pointer (some ⟨b, 0, none⟩)) e0) hw rfl
   · refine ob_free (fun g w hw hl => ?_)
     have e48 : g 48 = .pointer (some ⟨b, 0, none⟩) := (hl 48 (of_decide_eq_true (by kernel_rfl))).1 (of_decide_eq_true (by kernel_rfl))
     exact x_callF (vs := [.pointer (some ⟨b, 0, none⟩)]) (by kernel_rfl) (by show [g 48] = _; rw [e48]) ((bk.house w b B _ hg2 (bk.mono hr hw.at) (lies_of hw (fun _ hq => (List.mem_cons_of_mem _ (List.mem_cons_of_mem _ (List.mem_append_right _ (List.mem_append_left _ hq))))))).toF (fun F v E hk hl => houseR_of hk hl)) (fun w' v hb hr => houseR_mono _ _ _ _ (fresh_at _ _) hr)
   · refine ob_free (fun g w hw hl => ?_)
     obtain ⟨h49, e49, c49, p49, l49⟩ := (show (HouseR (doM s x).1) (At w) (g 49) from (hl 49 (of_decide_eq_true (by kernel_rfl))).1 (of_decide_eq_true (by kernel_rfl)))
     exact x_call (v := I (total (doM s x).1.c)) (vs := [.agg h49.cells]) (by kernel_rfl) (by show [g 49] = _; rw [e49]) (by have e := g_Sum h49 w; rw [sum_bank hg2 c49] at e; exact e) (fun _ => rfl)
   · refine ob_free (fun g w hw hl => ?_)
     have e3 : g 3 = .pointer (some ⟨bn, 0, none⟩) := (hl 3 (of_decide_eq_true (by kernel_rfl))).2 (of_decide_eq_true (by kernel_rfl))
     exact x_val (v_load1 (v := I (total s.c)) (by kernel_rfl) e3 (.there (.there (.app (.app .here)))) rfl) hw rfl
   · refine ob_free (fun g w hw hl => ?_)
     have e50 : g 50 = I (total (doM s x).1.c) := (hl 50 (of_decide_eq_true (by kernel_rfl))).1 (of_decide_eq_true (by kernel_rfl))
     have e51 : g 51 = I (total s.c) := (hl 51 (of_decide_eq_true (by kernel_rfl))).1 (of_decide_eq_true (by kernel_rfl))
     exact x_val (v_eql e50 e51) hw rfl
   · refine ob_free (fun g w hw hl => ?_)
     have e52 : g 52 = .bool (decide (total (doM s x).1.c = (total s.c))) := (hl 52 (of_decide_eq_true (by kernel_rfl))).1 (of_decide_eq_true (by kernel_rfl))
     exact x_val (v_assign (v := .bool (decide (total (doM s x).1.c = (total s.c)))) e52) hw rfl
   intro g w hw hd he
   have e7 : g 7 = .bool (decide (total (doM s x).1.c = (total s.c))) := hd 7 (of_decide_eq_true (by kernel_rfl))
   obtain ⟨g1, hg1⟩ : ∃ g1, g = (upd g1 7 (.bool (decide (total (doM s x).1.c = (total s.c))))) := ⟨g, live1 e7⟩
   rw [hg1]
   refine cC_at ?_ hw
   refine c_ret ?_
   exact n_doneW (B' := B ++ [(bn, .cells #[I (total (doM s x).1.c)] 3 (0, 0))]) rfl (by decide) (fun _ _ h => h) (fun w1 hw => by rw [List.append_assoc, (out_none hg hn10 hn11 hn7 (fun h => by have := of_decide_eq_false h27; omega))]; exact hw.sub (List.Sublist.cons _ (List.Sublist.cons _ (List.Sublist.trans (List.Sublist.refl _) (List.sublist_append_right _ _))))) ⟨congrArg Value.bool (decide_eq_true (out_none hg hn10 hn11 hn7 (fun h => by have := of_decide_eq_false h27; omega))), rfl⟩
 refine s_want rfl rfl h27 ?_
 refine s_val (v_field (fo := 0) (by kernel_rfl) rfl) ?_
 refine s_want rfl rfl h27 ?_
 refine s_val (v_load1 (v := .int .i64 _) (by kernel_rfl) rfl (.there .here) rfl) ?_
 refine s_want rfl rfl h27 ?_
 refine s_val (v_eql (k := .i64) rfl rfl) ?_
 refine s_val (v_pickT (v := .bool _) rfl h27 rfl) ?_
 refine s_nil ?_
 refine c_cond rfl rfl (fun h31 => ?_) (fun h31 => ?_)
 · refine r_list (by kernel_rfl) ?_
   refine s_val (v_load1 (v := .int .i64 _) (by kernel_rfl) rfl (.there (.there (.app (.app .here)))) rfl) ?_
   refine s_val (v_field (fo := 4) (by kernel_rfl) rfl) ?_
   refine s_val (v_load1 (v := .int .i64 _) (by kernel_rfl) rfl (.there .here) rfl) ?_
   refine s_val (v_addw rfl rfl) ?_
   refine s_store1 (v := .int .i64 _) (by kernel_rfl) rfl rfl (.there (.there (.app (.app .here)))) ⟨Nat.zero_lt_one, rfl⟩ rfl ?_
   refine s_end ?_
   refine n_then ?_
   refine c_seq ?_
   refine r_seq (by kernel_rfl) ?_
   refine s_val (v_field (fo := 0) (by kernel_rfl) rfl) ?_
   refine s_val (v_load1 (v := .int .i64 _) (by kernel_rfl) rfl .here rfl) ?_
   refine s_val (v_eql (k := .i64) rfl rfl) ?_
   refine s_val (v_move (v := .bool _) rfl) ?_
   refine s_want rfl rfl h27 ?_
   refine s_val (v_field (fo := 0) (by kernel_rfl) rfl) ?_
   refine s_want rfl rfl h27 ?_
   refine s_val (v_load1 (v := .int .i64 _) (by kernel_rfl) rfl (.there .here) rfl) ?_
   refine s_want rfl rfl h27 ?_
   refine s_val (v_eql (k := .i64) rfl rfl) ?_
   refine s_val (v_pickT (v := .bool _) rfl h27 rfl) ?_
   refine s_nil ?_
   refine c_condFh rfl rfl (decide_eq_false (by have := of_decide_eq_true h31; omega)) ?_
   refine c_skip ?_
   refine n_then ?_
   refine f_seq (T := (row 48 (Eqv (.pointer (some ⟨b, 0, none⟩))) (row 49 ((HouseR (doM s x).1)) (row 50 (Eqv (I (total (doM s x).1.c))) (row 51 (Eqv (I (wr (total s.c + x.n)))) (row 52 (Eqv (.bool (decide (total (doM s x).1.c = (wr (total s.c + x.n)))))) (row 7 (Eqv (.bool (decide (total (doM s x).1.c = (wr (total s.c + x.n)))))) (fun _ => Any)))))))) (by kernel_rfl) (by kernel_rfl) (by kernel_rfl) (row_mono (eqv_mono _) (row_mono (houseR_mono _) (row_mono (eqv_mono _) (row_mono (eqv_mono _) (row_mono (eqv_mono _) (row_mono (eqv_mono _) (fun _ => any_mono))))))) ⟨?_, ?_, ?_, ?_, ?_, ?_, trivial⟩ ?_
   · refine ob_free (fun g w hw hl => ?_)
     have e0 : g 0 = .pointer (some ⟨b, 0, none⟩) := (hl 0 (of_decide_eq_true (by kernel_rfl))).2 (of_decide_eq_true (by kernel_rfl))
     exact x_val (v_move (v := .pointer (some ⟨b, 0, none⟩)) e0) hw rfl
   · refine ob_free (fun g w hw hl => ?_)
     have e48 : g 48 = .pointer (some ⟨b, 0, none⟩) := (hl 48 (of_decide_eq_true (by kernel_rfl))).1 (of_decide_eq_true (by kernel_rfl))
     exact x_callF (vs := [.pointer (some ⟨b, 0, none⟩)]) (by kernel_rfl) (by show [g 48] = _; rw [e48]) ((bk.house w b B _ hg2 (bk.mono hr hw.at) (lies_of hw (fun _ hq => (List.mem_cons_of_mem _ (List.mem_cons_of_mem _ (List.mem_append_right _ (List.mem_append_left _ hq))))))).toF (fun F v E hk hl => houseR_of hk hl)) (fun w' v hb hr => houseR_mono _ _ _ _ (fresh_at _ _) hr)
   · refine ob_free (fun g w hw hl => ?_)
     obtain ⟨h49, e49, c49, p49, l49⟩ := (show (HouseR (doM s x).1) (At w) (g 49) from (hl 49 (of_decide_eq_true (by kernel_rfl))).1 (of_decide_eq_true (by kernel_rfl)))
     exact x_call (v := I (total (doM s x).1.c)) (vs := [.agg h49.cells]) (by kernel_rfl) (by show [g 49] = _; rw [e49]) (by have e := g_Sum h49 w; rw [sum_bank hg2 c49] at e; exact e) (fun _ => rfl)
   · refine ob_free (fun g w hw hl => ?_)
     have e3 : g 3 = .pointer (some ⟨bn, 0, none⟩) := (hl 3 (of_decide_eq_true (by kernel_rfl))).2 (of_decide_eq_true (by kernel_rfl))
     exact x_val (v_load1 (v := I (wr (total s.c + x.n))) (by kernel_rfl) e3 (.there (.there (.app (.app .here)))) rfl) hw rfl
   · refine ob_free (fun g w hw hl => ?_)
     have e50 : g 50 = I (total (doM s x).1.c) := (hl 50 (of_decide_eq_true (by kernel_rfl))).1 (of_decide_eq_true (by kernel_rfl))
     have e51 : g 51 = I (wr (total s.c + x.n)) := (hl 51 (of_decide_eq_true (by kernel_rfl))).1 (of_decide_eq_true (by kernel_rfl))
     exact x_val (v_eql e50 e51) hw rfl
   · refine ob_free (fun g w hw hl => ?_)
     have e52 : g 52 = .bool (decide (total (doM s x).1.c = (wr (total s.c + x.n)))) := (hl 52 (of_decide_eq_true (by kernel_rfl))).1 (of_decide_eq_true (by kernel_rfl))
     exact x_val (v_assign (v := .bool (decide (total (doM s x).1.c = (wr (total s.c + x.n))))) e52) hw rfl
   intro g w hw hd he
   have e7 : g 7 = .bool (decide (total (doM s x).1.c = (wr (total s.c + x.n)))) := hd 7 (of_decide_eq_true (by kernel_rfl))
   obtain ⟨g1, hg1⟩ : ∃ g1, g = (upd g1 7 (.bool (decide (total (doM s x).1.c = (wr (total s.c + x.n)))))) := ⟨g, live1 e7⟩
   rw [hg1]
   refine cC_at ?_ hw
   refine c_ret ?_
   exact n_doneW (B' := B ++ [(bn, .cells #[I (total (doM s x).1.c)] 3 (0, 0))]) rfl (by decide) (fun _ _ h => h) (fun w1 hw => by rw [List.append_assoc, (out_fund hg hn10 hn11 hn7 (of_decide_eq_true h27) (of_decide_eq_true h31))]; exact hw.sub (List.Sublist.cons _ (List.Sublist.cons _ (List.Sublist.trans (List.Sublist.refl _) (List.sublist_append_right _ _))))) ⟨congrArg Value.bool (decide_eq_true (out_fund hg hn10 hn11 hn7 (of_decide_eq_true h27) (of_decide_eq_true h31))), rfl⟩
 refine c_skip ?_
 refine n_then ?_
 refine c_seq ?_
 refine r_seq (by kernel_rfl) ?_
 refine s_val (v_field (fo := 0) (by kernel_rfl) rfl) ?_
 refine s_val (v_load1 (v := .int .i64 _) (by kernel_rfl) rfl .here rfl) ?_
 refine s_val (v_eql (k := .i64) rfl rfl) ?_
 refine s_val (v_move (v := .bool _) rfl) ?_
 refine s_want rfl rfl h27 ?_
 refine s_val (v_field (fo := 0) (by kernel_rfl) rfl) ?_
 refine s_want rfl rfl h27 ?_
 refine s_val (v_load1 (v := .int .i64 _) (by kernel_rfl) rfl (.there .here) rfl) ?_
 refine s_want rfl rfl h27 ?_
 refine s_val (v_eql (k := .i64) rfl rfl) ?_
 refine s_val (v_pickT (v := .bool _) rfl h27 rfl) ?_
 refine s_nil ?_
 refine c_condR rfl rfl (fun h43 => ?_) (fun h43 => ?_)
 · refine c_skip ?_
   refine n_then ?_
   refine f_seq (T := (row 48 (Eqv (.pointer (some ⟨b, 0, none⟩))) (row 49 ((HouseR (doM s x).1)) (row 50 (Eqv (I (total (doM s x).1.c))) (row 51 (Eqv (I (total s.c))) (row 52 (Eqv (.bool (decide (total (doM s x).1.c = (total s.c))))) (row 7 (Eqv (.bool (decide (total (doM s x).1.c = (total s.c))))) (fun _ => Any)))))))) (by kernel_rfl) (by kernel_rfl) (by kernel_rfl) (row_mono (eqv_mono _) (row_mono (houseR_mono _) (row_mono (eqv_mono _) (row_mono (eqv_mono _) (row_mono (eqv_mono _) (row_mono (eqv_mono _) (fun _ => any_mono))))))) ⟨?_, ?_, ?_, ?_, ?_, ?_, trivial⟩ ?_
   · refine ob_free (fun g w hw hl => ?_)
     have e0 : g 0 = .pointer (some ⟨b, 0, none⟩) := (hl 0 (of_decide_eq_true (by kernel_rfl))).2 (of_decide_eq_true (by kernel_rfl))
     exact x_val (v_move (v := .pointer (some ⟨b, 0, none⟩)) e0) hw rfl
   · refine ob_free (fun g w hw hl => ?_)
     have e48 : g 48 = .pointer (some ⟨b, 0, none⟩) := (hl 48 (of_decide_eq_true (by kernel_rfl))).1 (of_decide_eq_true (by kernel_rfl))
     exact x_callF (vs := [.pointer (some ⟨b, 0, none⟩)]) (by kernel_rfl) (by show [g 48] = _; rw [e48]) ((bk.house w b B _ hg2 (bk.mono hr hw.at) (lies_of hw (fun _ hq => (List.mem_cons_of_mem _ (List.mem_cons_of_mem _ (List.mem_append_right _ (List.mem_append_left _ hq))))))).toF (fun F v E hk hl => houseR_of hk hl)) (fun w' v hb hr => houseR_mono _ _ _ _ (fresh_at _ _) hr)
   · refine ob_free (fun g w hw hl => ?_)
     obtain ⟨h49, e49, c49, p49, l49⟩ := (show (HouseR (doM s x).1) (At w) (g 49) from (hl 49 (of_decide_eq_true (by kernel_rfl))).1 (of_decide_eq_true (by kernel_rfl)))
     exact x_call (v := I (total (doM s x).1.c)) (vs := [.agg h49.cells]) (by kernel_rfl) (by show [g 49] = _; rw [e49]) (by have e := g_Sum h49 w; rw [sum_bank hg2 c49] at e; exact e) (fun _ => rfl)
   · refine ob_free (fun g w hw hl => ?_)
     have e3 : g 3 = .pointer (some ⟨bn, 0, none⟩) := (hl 3 (of_decide_eq_true (by kernel_rfl))).2 (of_decide_eq_true (by kernel_rfl))
     exact x_val (v_load1 (v := I (total s.c)) (by kernel_rfl) e3 (.there (.there (.app (.app .here)))) rfl) hw rfl
   · refine ob_free (fun g w hw hl => ?_)
     have e50 : g 50 = I (total (doM s x).1.c) := (hl 50 (of_decide_eq_true (by kernel_rfl))).1 (of_decide_eq_true (by kernel_rfl))
     have e51 : g 51 = I (total s.c) := (hl 51 (of_decide_eq_true (by kernel_rfl))).1 (of_decide_eq_true (by kernel_rfl))
     exact x_val (v_eql e50 e51) hw rfl
   · refine ob_free (fun g w hw hl => ?_)
     have e52 : g 52 = .bool (decide (total (doM s x).1.c = (total s.c))) := (hl 52 (of_decide_eq_true (by kernel_rfl))).1 (of_decide_eq_true (by kernel_rfl))
     exact x_val (v_assign (v := .bool (decide (total (doM s x).1.c = (total s.c)))) e52) hw rfl
   intro g w hw hd he
   have e7 : g 7 = .bool (decide (total (doM s x).1.c = (total s.c))) := hd 7 (of_decide_eq_true (by kernel_rfl))
   obtain ⟨g1, hg1⟩ : ∃ g1, g = (upd g1 7 (.bool (decide (total (doM s x).1.c = (total s.c))))) := ⟨g, live1 e7⟩
   rw [hg1]
   refine cC_at ?_ hw
   refine c_ret ?_
   exact n_doneW (B' := B ++ [(bn, .cells #[I (total (doM s x).1.c)] 3 (0, 0))]) rfl (by decide) (fun _ _ h => h) (fun w1 hw => by rw [List.append_assoc, (out_none hg hn10 hn11 hn7 (fun h => by have := of_decide_eq_false h31; have := of_decide_eq_false h43; omega))]; exact hw.sub (List.Sublist.cons _ (List.Sublist.cons _ (List.Sublist.trans (List.Sublist.refl _) (List.sublist_append_right _ _))))) ⟨congrArg Value.bool (decide_eq_true (out_none hg hn10 hn11 hn7 (fun h => by have := of_decide_eq_false h31; have := of_decide_eq_false h43; omega))), rfl⟩
 refine r_list (by kernel_rfl) ?_
 refine s_val (v_load1 (v := .int .i64 _) (by kernel_rfl) rfl (.there (.there (.app (.app .here)))) rfl) ?_
 refine s_val (v_field (fo := 4) (by kernel_rfl) rfl) ?_
 refine s_val (v_load1 (v := .int .i64 _) (by kernel_rfl) rfl (.there .here) rfl) ?_
 refine s_val (v_subw rfl rfl) ?_
 refine s_store1 (v := .int .i64 _) (by kernel_rfl) rfl rfl (.there (.there (.app (.app .here)))) ⟨Nat.zero_lt_one, rfl⟩ rfl ?_
 refine s_end ?_
 refine n_then ?_
 refine f_seq (T := (row 48 (Eqv (.pointer (some ⟨b, 0, none⟩))) (row 49 ((HouseR (doM s x).1)) (row 50 (Eqv (I (total (doM s x).1.c))) (row 51 (Eqv (I (wr (total s.c - x.n)))) (row 52 (Eqv (.bool (decide (total (doM s x).1.c = (wr (total s.c - x.n)))))) (row 7 (Eqv (.bool (decide (total (doM s x).1.c = (wr (total s.c - x.n)))))) (fun _ => Any)))))))) (by kernel_rfl) (by kernel_rfl) (by kernel_rfl) (row_mono (eqv_mono _) (row_mono (houseR_mono _) (row_mono (eqv_mono _) (row_mono (eqv_mono _) (row_mono (eqv_mono _) (row_mono (eqv_mono _) (fun _ => any_mono))))))) ⟨?_, ?_, ?_, ?_, ?_, ?_, trivial⟩ ?_
 · refine ob_free (fun g w hw hl => ?_)
   have e0 : g 0 = .pointer (some ⟨b, 0, none⟩) := (hl 0 (of_decide_eq_true (by kernel_rfl))).2 (of_decide_eq_true (by kernel_rfl))
   exact x_val (v_move (v := .pointer (some ⟨b, 0, none⟩)) e0) hw rfl
 · refine ob_free (fun g w hw hl => ?_)
   have e48 : g 48 = .pointer (some ⟨b, 0, none⟩) := (hl 48 (of_decide_eq_true (by kernel_rfl))).1 (of_decide_eq_true (by kernel_rfl))
   exact x_callF (vs := [.pointer (some ⟨b, 0, none⟩)]) (by kernel_rfl) (by show [g 48] = _; rw [e48]) ((bk.house w b B _ hg2 (bk.mono hr hw.at) (lies_of hw (fun _ hq => (List.mem_cons_of_mem _ (List.mem_cons_of_mem _ (List.mem_append_right _ (List.mem_append_left _ hq))))))).toF (fun F v E hk hl => houseR_of hk hl)) (fun w' v hb hr => houseR_mono _ _ _ _ (fresh_at _ _) hr)
 · refine ob_free (fun g w hw hl => ?_)
   obtain ⟨h49, e49, c49, p49, l49⟩ := (show (HouseR (doM s x).1) (At w) (g 49) from (hl 49 (of_decide_eq_true (by kernel_rfl))).1 (of_decide_eq_true (by kernel_rfl)))
   exact x_call (v := I (total (doM s x).1.c)) (vs := [.agg h49.cells]) (by kernel_rfl) (by show [g 49] = _; rw [e49]) (by have e := g_Sum h49 w; rw [sum_bank hg2 c49] at e; exact e) (fun _ => rfl)
 · refine ob_free (fun g w hw hl => ?_)
   have e3 : g 3 = .pointer (some ⟨bn, 0, none⟩) := (hl 3 (of_decide_eq_true (by kernel_rfl))).2 (of_decide_eq_true (by kernel_rfl))
   exact x_val (v_load1 (v := I (wr (total s.c - x.n))) (by kernel_rfl) e3 (.there (.there (.app (.app .here)))) rfl) hw rfl
 · refine ob_free (fun g w hw hl => ?_)
   have e50 : g 50 = I (total (doM s x).1.c) := (hl 50 (of_decide_eq_true (by kernel_rfl))).1 (of_decide_eq_true (by kernel_rfl))
   have e51 : g 51 = I (wr (total s.c - x.n)) := (hl 51 (of_decide_eq_true (by kernel_rfl))).1 (of_decide_eq_true (by kernel_rfl))
   exact x_val (v_eql e50 e51) hw rfl
 · refine ob_free (fun g w hw hl => ?_)
   have e52 : g 52 = .bool (decide (total (doM s x).1.c = (wr (total s.c - x.n)))) := (hl 52 (of_decide_eq_true (by kernel_rfl))).1 (of_decide_eq_true (by kernel_rfl))
   exact x_val (v_assign (v := .bool (decide (total (doM s x).1.c = (wr (total s.c - x.n))))) e52) hw rfl
 intro g w hw hd he
 have e7 : g 7 = .bool (decide (total (doM s x).1.c = (wr (total s.c - x.n)))) := hd 7 (of_decide_eq_true (by kernel_rfl))
 obtain ⟨g1, hg1⟩ : ∃ g1, g = (upd g1 7 (.bool (decide (total (doM s x).1.c = (wr (total s.c - x.n)))))) := ⟨g, live1 e7⟩
 rw [hg1]
 refine cC_at ?_ hw
 refine c_ret ?_
 exact n_doneW (B' := B ++ [(bn, .cells #[I (total (doM s x).1.c)] 3 (0, 0))]) rfl (by decide) (fun _ _ h => h) (fun w1 hw => by rw [List.append_assoc, (out_spend hg hn10 hn11 hn7 (of_decide_eq_true h27) (of_decide_eq_true h43))]; exact hw.sub (List.Sublist.cons _ (List.Sublist.cons _ (List.Sublist.trans (List.Sublist.refl _) (List.sublist_append_right _ _))))) ⟨congrArg Value.bool (decide_eq_true (out_spend hg hn10 hn11 hn7 (of_decide_eq_true h27) (of_decide_eq_true h43))), rfl⟩
theorem law_TopOutside (bk : BankOk) (a0 : Option Addr) (c0 : Nat) (xs : List ActS) (w : World) (hx : ActsAt (At w) a0 xs) (hlx : xs.length ≤ 9223372036854775807) : Gives Try.prog 6 [.slice a0 xs.length c0] w (.bool true) := by
 refine gives_of Try.func6 rfl Try.ntmps6 (by simp) ?_
 refine r_seq (by kernel_rfl) ?_
 refine s_val (v_assign (v := .bool _) rfl) ?_
 refine s_nil ?_
 refine r_seq (by kernel_rfl) ?_
 refine s_alloc (z := zeroOf Try.prog 3) (by kernel_rfl) (fun b3 => ?_)
 refine s_store1 (v := .int .i64 _) (by kernel_rfl) rfl rfl .here ⟨Nat.zero_lt_one, rfl⟩ rfl ?_
 refine s_nil ?_
 refine r_seq (by kernel_rfl) ?_
 refine s_val (v_move (v := .slice _ _ _) rfl) ?_
 refine s_val (v_makeFunc (vs := [.pointer (some ⟨b3, 0, none⟩)]) rfl) ?_
 refine s_callW (B := [(b3, .cells #[I 0] 3 (0, 0))]) (by kernel_rfl) (g_play bk (fun n : Nat × Int => [(n.1, Obj.cells #[I n.2] 3 (0, 0))]) (fun _ s n _ => n.1 = b3 ∧ n.2 = total s.c) a0 c0 xs 26 [.pointer (some ⟨b3, 0, none⟩)] (At w) (b3, 0) hx hlx ⟨rfl, total_new⟩ (fun h _ => h) (by kernel_rfl) (by
   rintro F1 i s ⟨n1, n2⟩ x b B E a1 c1 hF hxk hi ⟨e1, e2⟩ hg hs hr ho
   dsimp only at e1 e2
   have e3 := e1.symm
   subst e3
   subst e2
   exact fun w0 K w hw => (look_TopOutside bk F1 s x b B E a1 c1 b3 hg hr w0 K w hw).mono fun e w' ⟨v, B', F', h1, h2, h3, h4, h5⟩ => ⟨v, B', F', h1, h2, h3, h4, (b3, _), h5, rfl, rfl⟩)) (fun F9 v9 B90 hF9 hR9 => ?_)
 obtain ⟨b9, B9, c9, rfl, rfl, hr9, hg9, hJ9⟩ := hR9
 refine s_val (v_move (v := .tuple _) rfl) ?_
 refine s_val (v_extract rfl rfl) ?_
 refine s_val (v_extract rfl rfl) ?_
 refine s_val (v_assign (v := .pointer _) rfl) ?_
 refine s_val (v_assign (v := .bool _) rfl) ?_
 refine s_nil ?_
 refine r_seq (by kernel_rfl) ?_
 refine s_val (v_move (v := .bool _) rfl) ?_
 refine s_val (v_assign (v := .bool _) rfl) ?_
 refine s_nil ?_
 refine c_ret ?_
 refine n_done rfl (by decide) (Eq.trans (b := .bool _) rfl (congrArg Value.bool ?_))
 rfl
end Go.Proofs.Ytmkboljfbmlebab
