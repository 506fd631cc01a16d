/- Contracts of alive and of play. Condition: a bank that keeps its contracts. -/
import Derived.Test.YtmkboljfbmlebabQ13
import Derived.Test.YtmkboljfbmlebabRows
namespace Go.Proofs.Ytmkboljfbmlebab
open Go.RowKit
set_option linter.unusedSimpArgs false
set_option linter.unusedVariables false
set_option maxRecDepth 100000
attribute [local irreducible] cC sC nC rC qw
set_option maxHeartbeats 1000000 in
theorem g_alive (bk : BankOk) (w : World) : Gives Try.prog 37 [] w (.bool true) := by
 refine gives_of Try.func37 rfl Try.ntmps37 (by simp) ?_
 refine r_seq (by kernel_rfl) ?_
 refine s_val (v_assign (v := .bool _) rfl) ?_
 refine s_nil ?_
 refine r_seq (by kernel_rfl) ?_
 refine s_callE (by kernel_rfl) (fun w hw => bk.new w) (fun v6 E6 hR6 => ?_)
 obtain ⟨b6, rfl, hr6⟩ := hR6
 refine s_val (v_assign (v := .pointer _) rfl) ?_
 refine s_nil ?_
 refine c_seq ?_
 refine r_seq (by kernel_rfl) ?_
 refine s_val (v_move (v := .pointer _) rfl) ?_
 refine s_val (v_ptrNil (by kernel_rfl) rfl rfl) ?_
 refine s_nil ?_
 refine c_condFh rfl rfl rfl ?_
 refine c_skip ?_
 refine n_then ?_
 refine r_seq (by kernel_rfl) ?_
 refine s_val (v_move (v := .pointer _) rfl) ?_
 refine s_val (v_build (vs := [(0, .int .i64 _), (1, .int .i64 _), (2, .int .i64 _), (4, .int .i64 _)]) (cs := aPay.cells) rfl (by kernel_rfl)) ?_
 refine s_do bk bgood_new (hr6 _) rfl rfl (fun F11 v11 E11 B11 hF11 hi11 hr11 => ?_)
 obtain ⟨a11, c11, rfl, hl11, ho11⟩ := hi11
 refine s_val (v_move (v := .pointer _) rfl) ?_
 refine s_val (v_build (vs := [(0, .int .i64 _), (1, .int .i64 _), (4, .int .i64 _)]) (cs := aFund.cells) rfl (by kernel_rfl)) ?_
 refine s_weak (fun w1 hw => hw.perm (perm_front (A := E11) (E := B11))) ?_
 refine s_do bk (bgood_new.act _) hr11 rfl rfl (fun F14 v14 E14 B14 hF14 hi14 hr14 => ?_)
 obtain ⟨a14, c14, rfl, hl14, ho14⟩ := hi14
 refine s_alloc (z := .agg (repC 0 0 (.slice none 0 0))) (by kernel_rfl) (fun b2 => ?_)
 refine s_alloc (z := .agg (repC 0 0 (.slice none 0 0))) (by kernel_rfl) (fun b3 => ?_)
 refine s_storeA (m := 3) (by kernel_rfl) rfl rfl (.there .here) rfl rfl rep_all ?_
 refine s_storeA (m := 3) (by kernel_rfl) rfl rfl .here rfl rfl rep_all ?_
 refine s_nil ?_
 refine r_seq (by kernel_rfl) ?_
 refine s_val (v_move (v := .pointer _) rfl) ?_
 refine s_call (by kernel_rfl) (fun w hw => bk.book w b6 B14 _ ((bgood_new.act _).act _) (bk.mono hr14 hw.at) (lies_of hw (fun _ hq => (List.mem_cons_of_mem _ (List.mem_cons_of_mem _ (List.mem_append_right _ (List.mem_append_left _ hq))))))) ?_
 refine s_val (v_move (v := .tuple _) rfl) ?_
 refine s_val (v_extract rfl rfl) ?_
 refine s_val (v_extract rfl rfl) ?_
 refine s_val (v_assign (v := S _) rfl) ?_
 refine s_val (v_assign (v := .bool _) rfl) ?_
 refine s_nil ?_
 refine r_seq (by kernel_rfl) ?_
 refine s_val (v_field (fo := 0) (by kernel_rfl) rfl) ?_
 refine s_val (v_load1 (v := .int .i64 _) (by kernel_rfl) rfl (.there .here) rfl) ?_
 refine s_val (v_eql (k := .i64) rfl rfl) ?_
 refine s_val (v_move (v := .bool _) rfl) ?_
 refine s_want rfl rfl (decide_eq_true (by rw [lDo1])) ?_
 refine s_val (v_field (fo := 0) (by kernel_rfl) rfl) ?_
 refine s_want rfl rfl (decide_eq_true (by rw [lDo1])) ?_
 refine s_val (v_load1 (v := .int .i64 _) (by kernel_rfl) rfl .here rfl) ?_
 refine s_want rfl rfl (decide_eq_true (by rw [lDo1])) ?_
 refine s_val (v_eql (k := .i64) rfl rfl) ?_
 refine s_val (v_pickT (v := .bool _) rfl (decide_eq_true (by rw [lDo1])) rfl) ?_
 refine s_val (v_move (v := .bool _) rfl) ?_
 refine s_want rfl rfl (decide_eq_true (by rw [lDo1]; exact congrArg RepS.code lDo2.1)) ?_
 refine s_val (v_field (fo := 2) (by kernel_rfl) rfl) ?_
 refine s_want rfl rfl (decide_eq_true (by rw [lDo1]; exact congrArg RepS.code lDo2.1)) ?_
 refine s_val (v_load1 (v := .slice _ _ _) (by kernel_rfl) rfl .here rfl) ?_
 refine s_want rfl rfl (decide_eq_true (by rw [lDo1]; exact congrArg RepS.code lDo2.1)) ?_
 refine s_val (v_lenS (T := 29) (m := 1) (by kernel_rfl) rfl rfl) ?_
 refine s_want rfl rfl (decide_eq_true (by rw [lDo1]; exact congrArg RepS.code lDo2.1)) ?_
 refine s_val (v_eql (k := .i64) rfl rfl) ?_
 refine s_val (v_pickT (v := .bool _) rfl (decide_eq_true (by rw [lDo1]; exact congrArg RepS.code lDo2.1)) rfl) ?_
 refine s_val (v_move (v := .bool _) rfl) ?_
 refine s_want rfl rfl (decide_eq_true (by rw [lDo1, lDo2.1]; rfl)) ?_
 refine s_val (v_move (v := .bool _) rfl) ?_
 refine s_val (v_pickT (v := .bool _) rfl (decide_eq_true (by rw [lDo1, lDo2.1]; rfl)) rfl) ?_
 refine s_val (v_move (v := .bool _) rfl) ?_
 refine s_want rfl rfl (by rw [lDo1, lDo2.2.1]; rfl) ?_
 refine s_val (v_move (v := S _) rfl) ?_
 refine s_want rfl rfl (by rw [lDo1, lDo2.2.1]; rfl) ?_
 refine s_val (v_strNe rfl rfl alive_text.1 (show Byt [] from fun b hb => by cases hb)) ?_
 refine s_val (v_pickT (v := .bool _) rfl (by rw [lDo1, lDo2.2.1]; rfl) rfl) ?_
 refine s_val (v_move (v := .bool _) rfl) ?_
 refine s_want rfl rfl (congrArg not (decide_eq_false alive_text.2)) ?_
 refine s_val (v_move (v := .pointer _) rfl) ?_
 refine s_want rfl rfl (congrArg not (decide_eq_false alive_text.2)) ?_
 refine s_callE (by kernel_rfl) (fun w hw => bk.house w b6 B14 _ ((bgood_new.act _).act _) (bk.mono hr14 hw.at) (lies_of hw (fun _ hq => (List.mem_cons_of_mem _ (List.mem_cons_of_mem _ (List.mem_append_right _ (List.mem_append_left _ hq))))))) (fun v43 E43 hR43 => ?_)
 obtain ⟨h43, rfl, hc43, hp43⟩ := hR43
 refine s_want rfl rfl (congrArg not (decide_eq_false alive_text.2)) ?_
 refine s_val ((v_fieldV (t := 36) (fo := 0) (m := 8) (by kernel_rfl) (by kernel_rfl) rfl).to (congrArg Value.agg (H.ex_acc h43))) ?_
 refine s_want rfl rfl (congrArg not (decide_eq_false alive_text.2)) ?_
 refine s_val (v_indexV (len := 4) (t := 35) (m := 2) (k := .i64) (cs' := acc2 _ _) (by kernel_rfl) (by kernel_rfl) rfl rfl (by decide) (accA_at _ _ (by decide))) ?_
 refine s_want rfl rfl (congrArg not (decide_eq_false alive_text.2)) ?_
 refine s_val (v_fieldS (t := 3) (fo := 0) (v := .int .i64 _) (by kernel_rfl) (by kernel_rfl) rfl rfl) ?_
 refine s_want rfl rfl (congrArg not (decide_eq_false alive_text.2)) ?_
 refine s_val (v_eql (k := .i64) rfl rfl) ?_
 refine s_val (v_pickT (v := .bool _) rfl (congrArg not (decide_eq_false alive_text.2)) rfl) ?_
 refine s_val (v_assign (v := .bool _) rfl) ?_
 refine s_nil ?_
 refine c_ret ?_
 refine n_done rfl (by decide) (Eq.trans (b := .bool _) rfl (congrArg Value.bool ?_))
 exact decide_eq_true (alive_has hc43)
set_option maxHeartbeats 1000000 in
theorem g_play (bk : BankOk) {κ : Type} (CB : κ → List (Nat × Obj)) (J : Nat → BankS → κ → (Addr → Value → Prop) → Prop) (a0 : Option Addr) (c0 : Nat) (xs : List ActS) (kf : FuncId) (caps : List Value) (F : Addr → Value → Prop) (c : κ) (hx : ActsAt F a0 xs) (hlx : xs.length ≤ 9223372036854775807) (hJ : J 0 newB c F) (hmono : ∀ {i : Nat} {s : BankS} {c : κ} {F F' : Addr → Value → Prop}, J i s c F → More F F' → J i s c F') (hk : hasBody Try.prog kf = true) (hlook : Looks bk CB J xs kf caps F) : GivesW Try.prog 20 [.slice a0 xs.length c0, .func (.func kf) #[] caps.toArray] F (CB c) (Played bk CB J xs) := by
 refine givesW_of Try.func20 rfl Try.ntmps20 (by simp) (fun w K => ?_)
 refine r_seq (by kernel_rfl) ?_
 refine s_val (v_assign (v := .pointer _) rfl) ?_
 refine s_val (v_assign (v := .bool _) rfl) ?_
 refine s_nil ?_
 refine c_seq ?_
 refine r_seq (by kernel_rfl) ?_
 refine s_call (by kernel_rfl) (fun w hw => g_alive bk w) ?_
 refine s_val (v_not rfl) ?_
 refine s_nil ?_
 refine c_condFh rfl rfl (congrArg not rfl) ?_
 refine c_skip ?_
 refine n_then ?_
 refine r_seq (by kernel_rfl) ?_
 refine s_callE (by kernel_rfl) (fun w hw => bk.new w) (fun v11 E11 hR11 => ?_)
 obtain ⟨b11, rfl, hr11⟩ := hR11
 refine s_val (v_assign (v := .pointer _) rfl) ?_
 refine s_nil ?_
 refine c_seq ?_
 refine r_seq (by kernel_rfl) ?_
 refine s_val (v_assign (v := .int .i64 _) rfl) ?_
 refine s_nil ?_
 refine c_block ?_
 refine c_loop (σ := PlG κ) (fun (t : PlG κ) f => ∃ g, (t.i ≤ xs.length ∧ t.i ≤ 80 ∧ More F t.F ∧ BGood t.s ∧ bk.Rep t.F t.b t.B t.s ∧ J t.i t.s t.c t.F ∧ t.s = playM newB (xs.take t.i)) ∧ f = (upd (upd (upd (upd g 0 (.slice a0 xs.length c0)) 1 (.func (.func kf) #[] caps.toArray)) 6 (.pointer (some ⟨t.b, 0, none⟩))) 7 (I t.i))) (fun (t : PlG κ) => Has w t.F (t.B ++ (CB t.c ++ K))) (fun (t : PlG κ) => xs.length - t.i) ⟨0, F, newB, b11, E11, c⟩ ⟨_, ⟨Nat.zero_le _, Nat.zero_le _, fun _ _ h => h, bgood_new, hr11 _, hJ, rfl⟩, live4 rfl rfl rfl rfl⟩ (fun w hw => hw) ?_
 rintro t _ ⟨g, ⟨hil, hi80, hmo, hgt, hrt, hJt, hst⟩, rfl⟩
 refine c_seq ?_
 refine r_seq (by kernel_rfl) ?_
 refine s_val (v_move (v := .int .i64 _) rfl) ?_
 refine s_val (v_move (v := .slice _ _ _) rfl) ?_
 refine s_val (v_lenS (T := 44) (m := 5) (by kernel_rfl) rfl rfl) ?_
 refine s_val (v_lss (k := .i64) rfl rfl) ?_
 refine s_val (v_move (v := .bool _) rfl) ?_
 refine s_splitR (s := 16) rfl (fun h16 => ?_) (fun h16 => ?_)
 · refine s_pass rfl rfl h16 ?_
   refine s_pass rfl rfl h16 ?_
   refine s_val (v_pickF (v := .bool _) rfl h16 rfl) ?_
   refine s_nil ?_
   refine c_condFh rfl rfl rfl ?_
   refine c_exit ?_
   refine n_exit ?_
   refine n_exit ?_
   refine n_bhere ?_
   refine n_then ?_
   refine r_seq (by kernel_rfl) ?_
   refine s_val (v_move (v := .pointer _) rfl) ?_
   refine s_val (v_assign (v := .pointer _) rfl) ?_
   refine s_val (v_assign (v := .bool _) rfl) ?_
   refine s_nil ?_
   refine c_ret ?_
   obtain ⟨e1, e2⟩ := play_all (by omega) (by omega) (fun h => absurd h.1 (by have := of_decide_eq_false h16; omega))
   refine n_doneW2 (B' := t.B ++ CB t.c) rfl (by decide) (by decide) hmo (fun w1 hw => by rw [List.append_assoc]; exact hw) ⟨t.b, t.B, t.c, rfl, rfl, ?_, ?_, ?_⟩
   · rw [← e1, ← hst]; exact hrt
   · exact bgood_play _
   · rw [e2, ← e1, ← hst]; exact hJt
 refine s_want rfl rfl h16 ?_
 refine s_val (v_move (v := .int .i64 _) rfl) ?_
 refine s_want rfl rfl h16 ?_
 refine s_val (v_lss (k := .i64) rfl rfl) ?_
 refine s_val (v_pickT (v := .bool _) rfl h16 rfl) ?_
 refine s_nil ?_
 refine c_condR rfl rfl (fun h19 => ?_) (fun h19 => ?_)
 · refine c_exit ?_
   refine n_exit ?_
   refine n_exit ?_
   refine n_bhere ?_
   refine n_then ?_
   refine r_seq (by kernel_rfl) ?_
   refine s_val (v_move (v := .pointer _) rfl) ?_
   refine s_val (v_assign (v := .pointer _) rfl) ?_
   refine s_val (v_assign (v := .bool _) rfl) ?_
   refine s_nil ?_
   refine c_ret ?_
   obtain ⟨e1, e2⟩ := play_all (by omega) (by omega) (fun h => absurd h.2 (by have := of_decide_eq_false h19; omega))
   refine n_doneW2 (B' := t.B ++ CB t.c) rfl (by decide) (by decide) hmo (fun w1 hw => by rw [List.append_assoc]; exact hw) ⟨t.b, t.B, t.c, rfl, rfl, ?_, ?_, ?_⟩
   · rw [← e1, ← hst]; exact hrt
   · exact bgood_play _
   · rw [e2, ← e1, ← hst]; exact hJt
 have hi0 := of_decide_eq_true h16
 have hi8 := of_decide_eq_true h19
 obtain ⟨bx, ox, x, hax, hxk, hxc⟩ := (hx.mono hmo).get (j := t.i) (by omega)
 refine c_skip ?_
 refine n_then ?_
 refine c_seq ?_
 refine c_block ?_
 refine r_seq (by kernel_rfl) ?_
 refine s_val (v_move (v := .pointer _) rfl) ?_
 refine s_val (v_move (v := .slice _ _ _) rfl) ?_
 refine s_val (v_move (v := .int .i64 _) rfl) ?_
 refine s_val (v_idxS (size := 5) (k := .i64) (by kernel_rfl) (congrArg (fun a => Value.slice a xs.length c0) hax) rfl ⟨by omega, by omega⟩) ?_
 refine s_val (v_loadNo (cs := x.cells) (m := 5) (by kernel_rfl) rfl rfl (fun k v hv => hxc k v hv)) ?_
 refine s_do bk hgt hrt rfl rfl (fun F27 v27 E27 B27 hF27 hi27 hr27 => ?_)
 obtain ⟨a27, c27, rfl, hl27, ho27⟩ := hi27
 refine s_alloc (z := .agg (repC 0 0 (.slice none 0 0))) (by kernel_rfl) (fun b8 => ?_)
 refine s_storeA (m := 3) (by kernel_rfl) rfl rfl .here rfl rfl rep_all ?_
 refine s_nil ?_
 refine t_seq (k := 7) (by kernel_rfl) (by kernel_rfl) (fun w hw => hw.drew) (by kernel_rfl) ?_
 refine q_val (v_move (v := .func _ _ _) rfl) ?_
 refine q_val (v_move (v := .pointer _) rfl) ?_
 refine q_val (v_move (v := .slice _ _ _) rfl) ?_
 refine q_val (v_move (v := .int .i64 _) rfl) ?_
 refine q_val (v_idxS (size := 5) (k := .i64) (by kernel_rfl) (congrArg (fun a => Value.slice a xs.length c0) hax) rfl ⟨by omega, by omega⟩) ?_
 refine q_val (v_loadNo (cs := x.cells) (m := 5) (by kernel_rfl) rfl rfl (fun k v hv => hF27 _ _ (hxc k v hv))) ?_
 refine q_val (v_loadA (m := 3) (by kernel_rfl) rfl .here rfl) ?_
 refine q_tail ?_
 refine s_weak (fun w1 hw => hw.perm List.perm_middle.symm) ?_
 refine s_weak (fun w1 hw => hw.perm (List.Perm.append_left E27 List.perm_middle.symm)) ?_
 refine s_weak (fun w1 hw => hw.perm (List.Perm.append_left E27 (List.Perm.append_left B27 List.perm_middle.symm))) ?_
 refine s_weak (fun w1 hw => show Has w F27 ((E27 ++ (B27 ++ CB t.c)) ++ _) w1 from (by rw [List.append_assoc, List.append_assoc]; exact hw)) ?_
 refine s_callWC (caps := caps) rfl hk (hlook F27 t.i t.s t.c x t.b B27 E27 a27 c27 (fun a v h => hF27 a v (hmo a v h)) hxk (by omega) (hmono hJt hF27) hgt hst hr27 ⟨a27, c27, rfl, hl27, ho27⟩) (fun F35 v35 B35 hF35 hR35 => ?_)
 obtain ⟨rfl, c35, rfl, hJ35⟩ := hR35
 refine s_weak (fun w1 hw => show Has w F35 (B27 ++ (CB c35 ++ _)) w1 from (by rw [List.append_assoc] at hw; exact hw)) ?_
 refine s_val (v_not rfl) ?_
 refine s_nil ?_
 refine c_condFh rfl rfl (congrArg not rfl) ?_
 refine c_skip ?_
 refine n_bnormal ?_
 refine n_then ?_
 refine r_list (by kernel_rfl) ?_
 refine s_val (v_move (v := .int .i64 _) rfl) ?_
 refine s_val (v_add rfl rfl (by omega)) ?_
 refine s_val (v_assign (v := .int .i64 _) rfl) ?_
 refine s_end ?_
 refine n_round (s := t) ⟨t.i + 1, F35, (doM t.s x).1, t.b, B27, c35⟩ ⟨_, ⟨by dsimp only; omega, by dsimp only; omega, fun a v h => hF35 a v (hF27 a v (hmo a v h)), hgt.act x, bk.mono hr27 hF35, hJ35, by dsimp only; rw [play_step hxk, ← hst]⟩, live4 rfl rfl rfl rfl⟩ (fun _ hw => hw.sub sub_last) (by dsimp only; omega)
set_option maxHeartbeats 1000000 in
theorem look_quiet (bk : BankOk) (F : Addr → Value → Prop) (s : BankS) (r : RepS) (x : ActS) (b : Nat) (B E : List (Nat × Obj)) (a1 : Option Addr) (l1 c1 : Nat) (hg : BGood s) (hr : bk.Rep F b B s) : GivesW Try.prog 35 [.pointer (some ⟨b, 0, none⟩), .agg x.cells, repOf r (.slice a1 l1 c1)] F (E ++ B) (fun F2 v B' => v = .bool true ∧ B' = B) := by
 refine givesW_of Try.func35 rfl Try.ntmps35 (by simp) (fun w K => ?_)
 refine c_weak (fun w1 hw => show Has w F (E ++ (B ++ K)) w1 from (by rw [← List.append_assoc]; exact hw)) ?_
 refine r_seq (by kernel_rfl) ?_
 refine s_box (v := .agg _) rfl (fun b4 => ?_)
 refine s_box (v := .agg _) rfl (fun b5 => ?_)
 refine s_val (v_assign (v := .bool _) rfl) ?_
 refine s_nil ?_
 refine r_seq (by kernel_rfl) ?_
 refine s_val (v_assign (v := .bool _) rfl) ?_
 refine s_nil ?_
 refine c_ret ?_
 exact n_doneW (B' := B) rfl (by decide) (fun _ _ h => h) (fun w1 hw => hw.sub (List.Sublist.cons _ (List.Sublist.cons _ (List.Sublist.trans (List.Sublist.refl _) (List.sublist_append_right _ _))))) ⟨rfl, rfl⟩
end Go.Proofs.Ytmkboljfbmlebab
