/- The law TopMemory. Condition: a bank that keeps its contracts. -/
import Derived.Test.YtmkboljfbmlebabQ13
import Derived.Test.YtmkboljfbmlebabQxW86
import Derived.Test.YtmkboljfbmlebabQxK59
namespace Go.Proofs.Ytmkboljfbmlebab
open Go.RowKit
set_option linter.unusedSimpArgs false
set_option linter.unusedVariables false
set_option maxRecDepth 100000
attribute [local irreducible] cC sC nC rC qw
set_option maxHeartbeats 1000000 in
theorem look_TopMemory (bk : BankOk) (F : Addr → Value → Prop) (s : BankS) (x : ActS) (b : Nat) (B E : List (Nat × Obj)) (a1 : Option Addr) (c1 : Nat) (b3 bo : Nat) (Bo : List (Nat × Obj)) (hg : BGood s) (hr : bk.Rep F b B (doM s x).1) (ho0 : IntsO (doM s x).2.done (.slice a1 (doM s x).2.done.length c1) E) (hro : bk.Rep F bo Bo s) (hdl : (doM s x).2.done.length ≤ 24) : GivesW Try.prog 41 [.pointer (some ⟨b, 0, none⟩), .agg x.cells, repOf (doM s x).2 (.slice a1 (doM s x).2.done.length c1), .pointer (some ⟨b3, 0, none⟩)] F (E ++ (B ++ ((b3, .cells #[.pointer (some ⟨bo, 0, none⟩)] 24 (0, 0)) :: Bo))) (fun F2 v B' => v = .bool true ∧ ∃ B2, bk.Rep F2 bo B2 (doM s x).1 ∧ B' = B ++ ((b3, .cells #[.pointer (some ⟨bo, 0, none⟩)] 24 (0, 0)) :: B2)) := by
 refine givesW_of Try.func41 rfl Try.ntmps41 (by simp) (fun w K => ?_)
 refine c_weak (fun w1 hw => show Has w F (E ++ (B ++ (((b3, .cells #[.pointer (some ⟨bo, 0, none⟩)] 24 (0, 0)) :: Bo) ++ K))) w1 from (by rw [← List.append_assoc, ← List.append_assoc, List.append_assoc E]; exact hw)) ?_
 have hg2 := hg.act x
 refine r_seq (by kernel_rfl) ?_
 refine s_box (v := .agg _) rfl (fun b5 => ?_)
 refine s_box (v := .agg _) rfl (fun b6 => ?_)
 refine s_val (v_assign (v := .bool _) rfl) ?_
 refine s_nil ?_
 refine c_seq ?_
 refine c_weak (fun w1 hw => hw.perm (List.Perm.cons _ (List.Perm.cons _ (List.Perm.append_left E (List.Perm.append_left B List.perm_middle.symm))))) ?_
 refine c_weak (fun w1 hw => hw.perm (List.Perm.cons _ (List.Perm.cons _ (List.Perm.append_left E (perm_front (A := B) (E := Bo)))))) ?_
 refine c_weak (fun w1 hw => hw.perm (List.Perm.cons _ (List.Perm.cons _ (perm_front (A := E) (E := Bo))))) ?_
 refine c_weak (fun w1 hw => hw.perm (List.Perm.cons _ List.perm_middle.symm)) ?_
 refine c_weak (fun w1 hw => hw.perm List.perm_middle.symm) ?_
 refine d_do (j := 2) (Ψ := (memΨ bk F bo s x a1 c1)) (bk := bk) (bo := bo) (s := s) (x := x) (by kernel_rfl) (by kernel_rfl) (by kernel_rfl) (by kernel_rfl) memΨ_stab ?_ ?_
 · intro i o ho
   match i, ho with
   | 0, ho =>
     obtain rfl := Option.some.inj ho
     refine ob_quietD (by decide) (fun st g w1 F1 hm hh hl => ?_)
     have e3 : g 3 = .pointer (some ⟨b3, 0, none⟩) := (hl 3 (of_decide_eq_true (by kernel_rfl))).2 (of_decide_eq_true (by kernel_rfl))
     exact ⟨.pointer (some ⟨bo, 0, none⟩), v_load1 (by kernel_rfl) e3 (.there (.there (.app (.app .here)))) rfl, ⟨fun _ => rfl, (fun e => (by cases e)), (fun e => (by cases e)), (fun e => (by cases e)), (fun e => (by cases e)), (fun e => (by cases e))⟩⟩
   | 1, ho =>
     obtain rfl := Option.some.inj ho
     refine ob_quietD (by decide) (fun st g w1 F1 hm hh hl => ?_)
     have e5 : g 5 = .pointer (some ⟨b5, 0, none⟩) := (hl 5 (of_decide_eq_true (by kernel_rfl))).2 (of_decide_eq_true (by kernel_rfl))
     exact ⟨.agg x.cells, v_loadA (m := 5) (by kernel_rfl) e5 (.there .here) rfl, ⟨(fun e => (by cases e)), fun _ => rfl, (fun e => (by cases e)), (fun e => (by cases e)), (fun e => (by cases e)), (fun e => (by cases e))⟩⟩
   | 2, ho =>
     obtain rfl := Option.some.inj ho
     refine ob_doD hg hro (fun st g hl => ?_) (fun m hm => ?_)
     · exact ⟨((hl 11 (of_decide_eq_true (by kernel_rfl))).1 (of_decide_eq_true (by kernel_rfl))).1 rfl, ((hl 12 (of_decide_eq_true (by kernel_rfl))).1 (of_decide_eq_true (by kernel_rfl))).2.1 rfl⟩
     · exact ⟨(fun e => (by cases e)), (fun e => (by cases e)), fun _ => ⟨m, rfl, rfl⟩, (fun e => (by cases e)), (fun e => (by cases e)), (fun e => (by cases e))⟩
   | 3, ho =>
     obtain rfl := Option.some.inj ho
     refine ob_quietD (by decide) (fun st g w1 F1 hm hh hl => ?_)
     have e6 : g 6 = .pointer (some ⟨b6, 0, none⟩) := (hl 6 (of_decide_eq_true (by kernel_rfl))).2 (of_decide_eq_true (by kernel_rfl))
     exact ⟨.agg (repC (doM s x).2.code (doM s x).2.n (.slice a1 (doM s x).2.done.length c1)), v_loadA (m := 3) (by kernel_rfl) e6 .here rfl, ⟨(fun e => (by cases e)), (fun e => (by cases e)), (fun e => (by cases e)), fun _ => rfl, (fun e => (by cases e)), (fun e => (by cases e))⟩⟩
   | 4, ho =>
     obtain rfl := Option.some.inj ho
     refine ob_giveD (by decide) (by kernel_rfl) (fun sb st g w1 hT hl => ?_)
     obtain ⟨m, rfl, e13⟩ := ((hl 13 (of_decide_eq_true (by kernel_rfl))).1 (of_decide_eq_true (by kernel_rfl))).2.2.1 rfl
     have e14 := ((hl 14 (of_decide_eq_true (by kernel_rfl))).1 (of_decide_eq_true (by kernel_rfl))).2.2.2.1 rfl
     have hw := hT.2.2
     refine ⟨.bool true, ?_, ⟨(fun e => (by cases e)), (fun e => (by cases e)), (fun e => (by cases e)), (fun e => (by cases e)), fun _ => rfl, (fun e => (by cases e))⟩⟩
     have e := gt_sameReply (doM s x).2.code (doM s x).2.n (doM s x).2.code (doM s x).2.n m.a a1 m.c c1 (doM s x).2.done (doM s x).2.done w1 (IntsO.known hT.2.1.2.1 (at_known hw (fun _ hq => (List.mem_append_left _ hq)))) (IntsO.known ho0 (at_known hw (fun _ hq => (List.mem_append_right _ (List.mem_append_right _ (List.mem_cons_of_mem _ (List.mem_cons_of_mem _ (List.mem_append_left _ hq)))))))) (by omega)
     rw [sameRB_self] at e
     show Gives _ _ [g 13, g 14] w1 _
     rw [e13, e14]
     exact e
   | 5, ho =>
     obtain rfl := Option.some.inj ho
     refine ob_quietD (by decide) (fun st g w1 F1 hm hh hl => ?_)
     have e15 := ((hl 15 (of_decide_eq_true (by kernel_rfl))).1 (of_decide_eq_true (by kernel_rfl))).2.2.2.2.1 rfl
     exact ⟨.bool (!true), v_not (x := .tmp 15) e15, ⟨(fun e => (by cases e)), (fun e => (by cases e)), (fun e => (by cases e)), (fun e => (by cases e)), (fun e => (by cases e)), fun _ => rfl⟩⟩
   | n + 6, ho => cases ho
 intro m g hok hd he
 have e16 : g 16 = .bool false := (hd 16 (of_decide_eq_true (by kernel_rfl))).2.2.2.2.2 rfl
 have e0 : g 0 = .pointer (some ⟨b, 0, none⟩) := he 0 (of_decide_eq_true (by kernel_rfl))
 have e3 : g 3 = .pointer (some ⟨b3, 0, none⟩) := he 3 (of_decide_eq_true (by kernel_rfl))
 have e5 : g 5 = .pointer (some ⟨b5, 0, none⟩) := he 5 (of_decide_eq_true (by kernel_rfl))
 have e6 : g 6 = .pointer (some ⟨b6, 0, none⟩) := he 6 (of_decide_eq_true (by kernel_rfl))
 obtain ⟨g1, hg1⟩ : ∃ g1, g = (upd (upd (upd (upd (upd g1 0 (.pointer (some ⟨b, 0, none⟩))) 3 (.pointer (some ⟨b3, 0, none⟩))) 5 (.pointer (some ⟨b5, 0, none⟩))) 6 (.pointer (some ⟨b6, 0, none⟩))) 16 (.bool false)) := ⟨g, live5 e0 e3 e5 e6 e16⟩
 rw [hg1]
 refine c_weak (fun w1 hw => hw.right) ?_
 refine c_condFh rfl rfl rfl ?_
 refine c_skip ?_
 refine n_then ?_
 refine c_seq ?_
 refine r_seq (by kernel_rfl) ?_
 refine s_val (v_field (fo := 2) (by kernel_rfl) rfl) ?_
 refine s_val (v_load1 (v := .slice _ _ _) (by kernel_rfl) rfl (.app .here) rfl) ?_
 refine s_val (v_lenS (T := 29) (m := 1) (by kernel_rfl) rfl rfl) ?_
 refine s_val (v_move (v := .int .i64 _) rfl) ?_
 refine s_nil ?_
 refine c_block ?_
 refine c_loop (σ := Nat × List (Nat × Obj)) (fun ((k, E') : Nat × List (Nat × Obj)) f => ∃ g, (k ≤ (doM s x).2.done.length ∧ OwnRow 1 a1 (doM s x).2.done.length c1 E') ∧ f = (upd (upd (upd (upd (upd (upd g 0 (.pointer (some ⟨b, 0, none⟩))) 3 (.pointer (some ⟨b3, 0, none⟩))) 5 (.pointer (some ⟨b5, 0, none⟩))) 6 (.pointer (some ⟨b6, 0, none⟩))) 19 (I (doM s x).2.done.length)) 20 (I k))) (fun ((k, E') : Nat × List (Nat × Obj)) => Has w m.F (m.B ++ ((b6, .cells ((repC (doM s x).2.code (doM s x).2.n (.slice a1 (doM s x).2.done.length c1))) 31) :: (b5, .cells x.cells 23) :: (E' ++ (B ++ ((b3, .cells #[.pointer (some ⟨bo, 0, none⟩)] 24 (0, 0)) :: K)))))) (fun ((k, E') : Nat × List (Nat × Obj)) => (doM s x).2.done.length - k) (0, E) ⟨_, ⟨Nat.zero_le _, ho0.own⟩, live6 rfl rfl rfl rfl rfl rfl⟩ (fun w hw => hw) ?_
 rintro ⟨k, E'⟩ _ ⟨g, ⟨hkl, hO⟩, rfl⟩
 refine r_seq (by kernel_rfl) ?_
 refine s_val (v_lss (k := .i64) rfl rfl) ?_
 refine s_nil ?_
 refine c_seq ?_
 refine c_cond rfl rfl (fun h21 => ?_) (fun h21 => ?_)
 · have hk0 := of_decide_eq_true h21
   obtain ⟨bE, tE, csE, haE, rfl, hsE⟩ := hO.some (by omega)
   have hO1 := hO.1
   refine c_skip ?_
   refine n_then ?_
   refine c_seq ?_
   refine c_block ?_
   refine r_seq (by kernel_rfl) ?_
   refine s_val (v_move (v := .int .i64 _) rfl) ?_
   refine s_val (v_assign (v := .int .i64 _) rfl) ?_
   refine s_nil ?_
   refine r_list (by kernel_rfl) ?_
   refine s_val (v_field (fo := 2) (by kernel_rfl) rfl) ?_
   refine s_val (v_load1 (v := .slice _ _ _) (by kernel_rfl) rfl (.app .here) rfl) ?_
   refine s_val (v_move (v := .int .i64 _) rfl) ?_
   refine s_val (v_idxS (size := 1) (k := .i64) (by kernel_rfl) (congrArg (fun a => Value.slice a (doM s x).2.done.length c1) haE) rfl ⟨by omega, by omega⟩) ?_
   refine s_store1 (v := .int .i64 _) (by kernel_rfl) rfl rfl (.app (.there (.there .here))) ⟨by rw [hsE]; omega, rfl⟩ rfl ?_
   refine s_end ?_
   refine n_bnormal ?_
   refine n_then ?_
   refine r_list (by kernel_rfl) ?_
   refine s_val (v_add rfl rfl (by omega)) ?_
   refine s_val (v_move (v := .int .i64 _) rfl) ?_
   refine s_end ?_
   refine n_round (s := (k, [(bE, .cells csE tE (0, 0))])) (k + 1, [(bE, .cells (csE.setIfInBounds (0 + (k : Int).toNat * 1) (.int .i64 (-1))) tE (0, 0))]) ⟨_, ⟨by omega, hO1, .inr ⟨bE, tE, _, haE, rfl, by rw [Array.size_setIfInBounds]; exact hsE⟩⟩, live6 rfl rfl rfl rfl rfl rfl⟩ (fun _ hw => hw) (by dsimp only; omega)
 refine c_exit ?_
 refine n_exit ?_
 refine n_exit ?_
 refine n_bhere ?_
 refine n_then ?_
 refine r_seq (by kernel_rfl) ?_
 refine s_val (v_move (v := .pointer _) rfl) ?_
 refine s_callE (by kernel_rfl) (fun w hw => bk.house w b B _ hg2 (bk.mono (bk.mono hr hok.1) hw.at) (lies_of hw (fun _ hq => (List.mem_append_right _ (List.mem_cons_of_mem _ (List.mem_cons_of_mem _ (List.mem_append_right _ (List.mem_append_left _ hq)))))))) (fun v29 E29 hR29 => ?_)
 obtain ⟨h29, rfl, hc29, hp29⟩ := hR29
 refine s_alloc (z := .agg zeroH.cells) (by kernel_rfl) (fun b9 => ?_)
 refine s_storeA (m := 42) (by kernel_rfl) rfl rfl .here (H.size _) (H.size _) (H.all1 _) ?_
 refine s_nil ?_
 refine c_seq ?_
 have hpl24 : h29.pl ≤ 24 := by have := (bgood_inv hg2).1.len; have := hp29.1; omega
 refine r_seq (by kernel_rfl) ?_
 refine s_val (v_field (fo := 40) (by kernel_rfl) rfl) ?_
 refine s_val (v_load1 (v := .slice _ _ _) (by kernel_rfl) rfl .here (H.at_pays _)) ?_
 refine s_val (v_lenS (T := 39) (m := 6) (by kernel_rfl) rfl rfl) ?_
 refine s_val (v_move (v := .int .i64 _) rfl) ?_
 refine s_nil ?_
 refine c_block ?_
 refine c_loop (σ := Nat × List (Nat × Obj)) (fun ((k, E9) : Nat × List (Nat × Obj)) f => ∃ g, (k ≤ h29.pl ∧ OwnRow 6 h29.pa h29.pl h29.pc E9) ∧ f = (upd (upd (upd (upd (upd g 0 (.pointer (some ⟨b, 0, none⟩))) 3 (.pointer (some ⟨b3, 0, none⟩))) 9 (.pointer (some ⟨b9, 0, none⟩))) 32 (I h29.pl)) 33 (I k))) (fun ((k, E9) : Nat × List (Nat × Obj)) => Has w m.F ((b9, .cells h29.cells 41) :: (E9 ++ (m.B ++ ((b6, .cells ((repC (doM s x).2.code (doM s x).2.n (.slice a1 (doM s x).2.done.length c1))) 31) :: (b5, .cells x.cells 23) :: (E' ++ (B ++ ((b3, .cells #[.pointer (some ⟨bo, 0, none⟩)] 24 (0, 0)) :: K)))))))) (fun ((k, E9) : Nat × List (Nat × Obj)) => h29.pl - k) (0, E29) ⟨_, ⟨Nat.zero_le _, hp29.own⟩, live5 rfl rfl rfl rfl rfl⟩ (fun w hw => hw) ?_
 rintro ⟨k, E9⟩ _ ⟨g, ⟨hkl, hO9⟩, rfl⟩
 refine r_seq (by kernel_rfl) ?_
 refine s_val (v_lss (k := .i64) rfl rfl) ?_
 refine s_nil ?_
 refine c_seq ?_
 refine c_condR rfl rfl (fun h34 => ?_) (fun h34 => ?_)
 · refine c_exit ?_
   refine n_exit ?_
   refine n_exit ?_
   refine n_bhere ?_
   refine n_then ?_
   refine r_seq (by kernel_rfl) ?_
   refine s_val (v_move (v := .pointer _) rfl) ?_
   refine s_val (v_load1 (v := .pointer (some ⟨bo, 0, none⟩)) (by kernel_rfl) rfl (.there (.app (.app (.there (.there (.app (.app .here))))))) rfl) ?_
   refine s_call (by kernel_rfl) (fun w hw => gt_same bk b bo B m.B _ _ w hg2 hg2 (bk.mono (bk.mono hr hok.1) hw.at) (bk.mono hok.2.2 hw.at) (lies_of hw (fun _ hq => (List.mem_cons_of_mem _ (List.mem_append_right _ (List.mem_append_right _ (List.mem_cons_of_mem _ (List.mem_cons_of_mem _ (List.mem_append_right _ (List.mem_append_left _ hq))))))))) (lies_of hw (fun _ hq => (List.mem_cons_of_mem _ (List.mem_append_right _ (List.mem_append_left _ hq))))) (Alike.refl _)) ?_
   refine s_val (v_assign (v := .bool _) rfl) ?_
   refine s_nil ?_
   refine c_ret ?_
   exact n_doneW (B' := B ++ ((b3, .cells #[.pointer (some ⟨bo, 0, none⟩)] 24 (0, 0)) :: m.B)) rfl (by decide) hok.1 (fun w1 hw => by rw [List.append_assoc]; exact (hw.sub (List.Sublist.cons _ (List.Sublist.trans (List.Sublist.append (List.Sublist.refl _) (List.Sublist.cons _ (List.Sublist.cons _ (List.Sublist.trans (List.Sublist.append (List.Sublist.refl _) (List.Sublist.cons_cons _ (List.Sublist.refl _))) (List.sublist_append_right _ _))))) (List.sublist_append_right _ _)))).perm (perm_back m.B B _ K)) ⟨rfl, m.B, hok.2.2, rfl⟩
 have hk0 := of_decide_eq_true h34
 obtain ⟨bP, tP, csP, haP, rfl, hsP⟩ := hO9.some (by omega)
 have hO91 := hO9.1
 refine c_skip ?_
 refine n_then ?_
 refine c_seq ?_
 refine c_block ?_
 refine r_seq (by kernel_rfl) ?_
 refine s_val (v_move (v := .int .i64 _) rfl) ?_
 refine s_val (v_assign (v := .int .i64 _) rfl) ?_
 refine s_nil ?_
 refine r_list (by kernel_rfl) ?_
 refine s_val (v_field (fo := 40) (by kernel_rfl) rfl) ?_
 refine s_val (v_load1 (v := .slice _ _ _) (by kernel_rfl) rfl .here (H.at_pays _)) ?_
 refine s_val (v_move (v := .int .i64 _) rfl) ?_
 refine s_val (v_build (vs := []) (cs := noPay.cells) rfl (by kernel_rfl)) ?_
 refine s_val (v_idxS (size := 6) (k := .i64) (by kernel_rfl) (congrArg (fun a => Value.slice a h29.pl h29.pc) haP) rfl ⟨by omega, by omega⟩) ?_
 refine s_storeP (m := 6) (by kernel_rfl) rfl rfl (.there .here) (by rw [hsP]; omega) rfl rfl (PayS.all1 _) ?_
 refine s_end ?_
 refine n_bnormal ?_
 refine n_then ?_
 refine r_list (by kernel_rfl) ?_
 refine s_val (v_add rfl rfl (by omega)) ?_
 refine s_val (v_move (v := .int .i64 _) rfl) ?_
 refine s_end ?_
 refine n_round (s := (k, [(bP, .cells csP tP (0, 0))])) (k + 1, [(bP, .cells (over csP (0 + (k : Int).toNat * 6) noPay.cells.toList) tP (0, 0))]) ⟨_, ⟨by omega, hO91, .inr ⟨bP, tP, _, haP, rfl, by rw [over_size (by rw [hsP]; show _ + 6 ≤ _; omega)]; exact hsP⟩⟩, live5 rfl rfl rfl rfl rfl⟩ (fun _ hw => hw) (by dsimp only; omega)
set_option maxHeartbeats 1000000 in
theorem law_TopMemory (bk : BankOk) (a0 : Option Addr) (c0 : Nat) (xs : List ActS) (w : World) (hx : ActsAt (At w) a0 xs) (hlx : xs.length ≤ 9223372036854775807) : Gives Try.prog 14 [.slice a0 xs.length c0] w (.bool true) := by
 refine gives_of Try.func14 rfl Try.ntmps14 (by simp) ?_
 refine r_seq (by kernel_rfl) ?_
 refine s_val (v_assign (v := .bool _) rfl) ?_
 refine s_nil ?_
 refine r_seq (by kernel_rfl) ?_
 refine s_callE (by kernel_rfl) (fun w hw => bk.new w) (fun v6 E6 hR6 => ?_)
 obtain ⟨b6, rfl, hr6⟩ := hR6
 refine s_alloc (z := zeroOf Try.prog 24) (by kernel_rfl) (fun b3 => ?_)
 refine s_store1 (v := .pointer _) (by kernel_rfl) rfl rfl .here ⟨Nat.zero_lt_one, rfl⟩ rfl ?_
 refine s_nil ?_
 refine r_seq (by kernel_rfl) ?_
 refine s_val (v_move (v := .slice _ _ _) rfl) ?_
 refine s_val (v_makeFunc (vs := [.pointer (some ⟨b3, 0, none⟩)]) rfl) ?_
 refine s_callW (B := ((b3, .cells #[.pointer (some ⟨b6, 0, none⟩)] 24 (0, 0)) :: E6)) (by kernel_rfl) (g_play bk (fun k : List (Nat × Obj) => (b3, Obj.cells #[.pointer (some ⟨b6, 0, none⟩)] 24 (0, 0)) :: k) (fun _ s k F => bk.Rep F b6 k s) a0 c0 xs 41 [.pointer (some ⟨b3, 0, none⟩)] (At w) E6 hx hlx (hr6 _) (fun h hm => bk.mono h hm) (by kernel_rfl) (by
   rintro F1 i s k x b B E a1 c1 hF hxk hi hJ hg hs hr ho
   have hdl : (doM s x).2.done.length ≤ 24 := reps_done (l := [x]) (j := 0) hg rfl
   exact fun w0 K w hw => (look_TopMemory bk F1 s x b B E a1 c1 b3 b6 k hg hr ho hJ hdl w0 K w hw).mono fun e w' ⟨v, B', F', h1, h2, h3, h4, k2, h5, h6⟩ => ⟨v, B', F', h1, h2, h3, h4, k2, h6, h5⟩)) (fun F10 v10 B100 hF10 hR10 => ?_)
 obtain ⟨b10, B10, c10, rfl, rfl, hr10, hg10, hJ10⟩ := hR10
 refine s_val (v_move (v := .tuple _) rfl) ?_
 refine s_val (v_extract rfl rfl) ?_
 refine s_val (v_extract rfl rfl) ?_
 refine s_val (v_assign (v := .pointer _) rfl) ?_
 refine s_val (v_assign (v := .bool _) rfl) ?_
 refine s_nil ?_
 refine r_seq (by kernel_rfl) ?_
 refine s_val (v_move (v := .bool _) rfl) ?_
 refine s_val (v_assign (v := .bool _) rfl) ?_
 refine s_nil ?_
 refine c_ret ?_
 refine n_done rfl (by decide) (Eq.trans (b := .bool _) rfl (congrArg Value.bool ?_))
 rfl
end Go.Proofs.Ytmkboljfbmlebab
