/- The law TopCrash. Condition: a bank that keeps its contracts. -/
import Derived.Test.YtmkboljfbmlebabQ13
import Derived.Test.YtmkboljfbmlebabQxW86
namespace Go.Proofs.Ytmkboljfbmlebab
open Go.RowKit
set_option linter.unusedSimpArgs false
set_option linter.unusedVariables false
set_option maxRecDepth 100000
attribute [local irreducible] cC sC nC rC qw
set_option maxHeartbeats 1000000 in
theorem look_TopCrash (bk : BankOk) (F : Addr → Value → Prop) (s : BankS) (x : ActS) (b : Nat) (B E : List (Nat × Obj)) (a1 : Option Addr) (c1 : Nat) (rp : ∀ (w : World) (a : Option Addr) (c : Nat) (l : List ActS), ActsAt (At w) a l → l.length ≤ 9223372036854775807 → GivesF Try.prog 34 [.slice a l.length c] w (ReplayF l)) (bd bl : Nat) (ad al : Option Addr) (cd cl : Nat) (Ed : List (Nat × Obj)) (log lo : List ActS) (hg : BGood s) (hr : bk.Rep F b B (doM s x).1) (ha : s.acts < 200) (hcr : Cr s log lo) (hEd : ListE 23 5 (.slice ad log.length cd) log.length (flatA log) Ed) (hal : ActsAt F al lo) : GivesW Try.prog 32 [.pointer (some ⟨b, 0, none⟩), .agg x.cells, repOf (doM s x).2 (.slice a1 (doM s x).2.done.length c1), .pointer (some ⟨bd, 0, none⟩), .pointer (some ⟨bl, 0, none⟩)] F (E ++ (B ++ ((bd, .cells #[.slice ad log.length cd] 44 (0, 0)) :: (bl, .cells #[.slice al lo.length cl] 44 (0, 0)) :: Ed))) (fun F2 v B' => v = .bool true ∧ ∃ k : CrG, B' = B ++ ((bd, .cells #[k.vd] 44 (0, 0)) :: (bl, .cells #[k.vl] 44 (0, 0)) :: k.E) ∧ crJ (doM s x).1 k F2) := by
 refine givesW_of Try.func32 rfl Try.ntmps32 (by simp) (fun w K => ?_)
 refine c_weak (fun w1 hw => show Has w F (E ++ (B ++ (((bd, .cells #[.slice ad log.length cd] 44 (0, 0)) :: (bl, .cells #[.slice al lo.length cl] 44 (0, 0)) :: Ed) ++ K))) w1 from (by rw [← List.append_assoc, ← List.append_assoc, List.append_assoc E]; exact hw)) ?_
 have hg2 := hg.act x
 refine r_seq (by kernel_rfl) ?_
 refine s_box (v := .agg _) rfl (fun b6 => ?_)
 refine s_box (v := .agg _) rfl (fun b7 => ?_)
 refine s_val (v_assign (v := .bool _) rfl) ?_
 refine s_nil ?_
 refine r_seq (by kernel_rfl) ?_
 refine s_val (v_move (v := .pointer _) rfl) ?_
 refine s_call (by kernel_rfl) (fun w hw => bk.book w b B _ hg2 (bk.mono hr hw.at) (lies_of hw (fun _ hq => (List.mem_cons_of_mem _ (List.mem_cons_of_mem _ (List.mem_append_right _ (List.mem_append_left _ hq))))))) ?_
 refine s_val (v_move (v := .tuple _) rfl) ?_
 refine s_val (v_extract rfl rfl) ?_
 refine s_val (v_extract rfl rfl) ?_
 refine s_val (v_assign (v := S _) rfl) ?_
 refine s_val (v_assign (v := .bool _) rfl) ?_
 refine s_nil ?_
 refine c_seq ?_
 refine c_block ?_
 refine r_seq (by kernel_rfl) ?_
 refine s_val (v_field (fo := 0) (by kernel_rfl) rfl) ?_
 refine s_val (v_load1 (v := .int .i64 _) (by kernel_rfl) rfl (.there .here) rfl) ?_
 refine s_val (v_eql (k := .i64) rfl rfl) ?_
 refine s_val (v_move (v := .bool _) rfl) ?_
 refine s_splitR (s := 20) rfl (fun h20 => ?_) (fun h20 => ?_)
 · refine s_pass rfl rfl h20 ?_
   refine s_pass rfl rfl h20 ?_
   refine s_pass rfl rfl h20 ?_
   refine s_val (v_pickF (v := .bool _) rfl h20 rfl) ?_
   refine s_val (v_assign (v := .bool _) rfl) ?_
   refine s_nil ?_
   refine c_condFh rfl rfl rfl ?_
   refine r_seq (by kernel_rfl) ?_
   refine s_val (v_field (fo := 0) (by kernel_rfl) rfl) ?_
   refine s_val (v_load1 (v := .int .i64 _) (by kernel_rfl) rfl (.there .here) rfl) ?_
   refine s_val (v_eql (k := .i64) rfl rfl) ?_
   refine s_val (v_move (v := .bool _) rfl) ?_
   refine s_split (s := 52) rfl (fun h52 => ?_) (fun h52 => ?_)
   · refine s_pass rfl rfl h52 ?_
     refine s_pass rfl rfl h52 ?_
     refine s_pass rfl rfl h52 ?_
     refine s_val (v_pickT (v := .bool _) rfl h52 rfl) ?_
     refine s_val (v_assign (v := .bool _) rfl) ?_
     refine s_nil ?_
     refine c_condTh rfl rfl rfl ?_
     refine r_seq (by kernel_rfl) ?_
     refine s_val (v_assign (v := .bool _) rfl) ?_
     refine s_nil ?_
     refine c_ret ?_
     refine n_bret ?_
     refine n_ret ?_
     exact n_doneW (B' := B ++ ((bd, .cells #[.slice ad log.length cd] 44 (0, 0)) :: (bl, .cells #[.slice al lo.length cl] 44 (0, 0)) :: Ed)) rfl (by decide) (fun _ _ h => h) (fun w1 hw => by rw [List.append_assoc]; exact hw.sub (List.Sublist.cons _ (List.Sublist.cons _ (List.Sublist.trans (List.Sublist.append (List.Sublist.refl _) (List.Sublist.cons_cons _ (List.Sublist.cons_cons _ (List.Sublist.append (List.Sublist.refl _) (List.Sublist.refl _))))) (List.sublist_append_right _ _))))) ⟨rfl, ⟨.slice ad log.length cd, .slice al lo.length cl, Ed, log, lo⟩, rfl, crash_stay hcr (by first | exact .inl (of_decide_eq_true h52) | exact .inr ⟨of_decide_eq_true h20, of_decide_eq_false h16⟩), ⟨ad, cd, rfl⟩, hEd, al, cl, rfl, hal⟩
   refine s_want rfl rfl h52 ?_
   refine s_val (v_field (fo := 0) (by kernel_rfl) rfl) ?_
   refine s_want rfl rfl h52 ?_
   refine s_val (v_load1 (v := .int .i64 _) (by kernel_rfl) rfl (.there .here) rfl) ?_
   refine s_want rfl rfl h52 ?_
   refine s_val (v_eql (k := .i64) rfl rfl) ?_
   refine s_val (v_pickF (v := .bool _) rfl h52 rfl) ?_
   refine s_val (v_assign (v := .bool _) rfl) ?_
   refine s_nil ?_
   refine c_condFh rfl rfl h20 ?_
   have hn10 := of_decide_eq_false h52
   have hn11 := of_decide_eq_false h20
   refine r_seq (by kernel_rfl) ?_
   refine s_val (v_field (fo := 0) (by kernel_rfl) rfl) ?_
   refine s_val (v_load1 (v := .int .i64 _) (by kernel_rfl) rfl .here rfl) ?_
   refine s_val (v_eql (k := .i64) rfl rfl) ?_
   refine s_val (v_move (v := .bool _) rfl) ?_
   refine s_split (s := 61) rfl (fun h61 => ?_) (fun h61 => ?_)
   · refine s_want rfl rfl h61 ?_
     refine s_val (v_load1 (v := .slice al lo.length cl) (by kernel_rfl) rfl (.there (.there (.app (.app (.there .here))))) rfl) ?_
     refine s_want rfl rfl h61 ?_
     refine s_val (v_lenS (T := 44) (m := 5) (by kernel_rfl) rfl rfl) ?_
     refine s_want rfl rfl h61 ?_
     refine s_val (v_eql (k := .i64) rfl rfl) ?_
     refine s_val (v_pickT (v := .bool _) rfl h61 rfl) ?_
     refine s_val (v_assign (v := .bool _) rfl) ?_
     refine s_nil ?_
     refine c_cond rfl rfl (fun h57 => ?_) (fun h57 => ?_)
     · have hdn := crash_down hcr ha hn10 hn11 (of_decide_eq_true h61)
       refine r_list (by kernel_rfl) ?_
       refine s_val (v_loadA (m := 5) (by kernel_rfl) rfl (.there .here) rfl) ?_
       refine s_build1 (v := .agg _) (e := 23) (m := 5) (by_ := 40) (by kernel_rfl) rfl rfl rfl (fill_one rfl) (fun b67 => ?_)
       refine s_store1 (v := .slice _ _ _) (by kernel_rfl) rfl rfl (.there (.there (.there (.app (.app (.there .here)))))) ⟨Nat.zero_lt_one, rfl⟩ rfl ?_
       refine s_end ?_
       refine n_bnormal ?_
       refine n_then ?_
       refine c_forget (E := [_]) (fun F67 hF67 hK67 => ?_)
       refine r_seq (by kernel_rfl) ?_
       refine s_val (v_move (v := .bool _) rfl) ?_
       refine s_val (v_field (fo := 0) (by kernel_rfl) rfl) ?_
       refine s_val (v_load1 (v := .int .i64 _) (by kernel_rfl) rfl .here rfl) ?_
       refine s_val (v_neq (k := .i64) rfl rfl) ?_
       refine s_val (v_eqlB (by kernel_rfl) rfl rfl) ?_
       refine s_val (v_assign (v := .bool _) rfl) ?_
       refine s_nil ?_
       refine c_ret ?_
       exact n_doneW (B' := B ++ ((bd, .cells #[.slice ad log.length cd] 44 (0, 0)) :: (bl, .cells #[.slice (some ⟨b67, 0, none⟩) 1 1] 44 (0, 0)) :: Ed)) rfl (by decide) hF67 (fun w1 hw => by rw [List.append_assoc]; exact hw.sub (List.Sublist.cons _ (List.Sublist.cons _ (List.Sublist.trans (List.Sublist.append (List.Sublist.refl _) (List.Sublist.cons_cons _ (List.Sublist.cons_cons _ (List.Sublist.append (List.Sublist.refl _) (List.Sublist.refl _))))) (List.sublist_append_right _ _))))) ⟨congrArg Value.bool (by rw [hdn.1, of_decide_eq_true h61]; rfl), ⟨.slice ad log.length cd, .slice (some ⟨b67, 0, none⟩) 1 1, Ed, log, [x]⟩, rfl, hdn.2.elim (fun h => h.2) (fun h => absurd (List.length_eq_zero_iff.1 (by have := of_decide_eq_true h57; omega)) h.1), ⟨ad, cd, rfl⟩, hEd, some ⟨b67, 0, none⟩, 1, rfl, act_known hK67⟩
     have hdn := crash_down hcr ha hn10 hn11 (of_decide_eq_true h61)
     refine r_seq (by kernel_rfl) ?_
     refine s_val (v_field (fo := 0) (by kernel_rfl) rfl) ?_
     refine s_val (v_load1 (v := .int .i64 _) (by kernel_rfl) rfl .here rfl) ?_
     refine s_val (v_eql (k := .i64) rfl rfl) ?_
     refine s_val (v_assign (v := .bool _) rfl) ?_
     refine s_nil ?_
     refine c_condFh rfl rfl (decide_eq_false (by have := of_decide_eq_true h61; omega)) ?_
     refine c_skip ?_
     refine n_bnormal ?_
     refine n_then ?_
     
     refine r_seq (by kernel_rfl) ?_
     refine s_val (v_move (v := .bool _) rfl) ?_
     refine s_val (v_field (fo := 0) (by kernel_rfl) rfl) ?_
     refine s_val (v_load1 (v := .int .i64 _) (by kernel_rfl) rfl .here rfl) ?_
     refine s_val (v_neq (k := .i64) rfl rfl) ?_
     refine s_val (v_eqlB (by kernel_rfl) rfl rfl) ?_
     refine s_val (v_assign (v := .bool _) rfl) ?_
     refine s_nil ?_
     refine c_ret ?_
     exact n_doneW (B' := B ++ ((bd, .cells #[.slice ad log.length cd] 44 (0, 0)) :: (bl, .cells #[.slice al lo.length cl] 44 (0, 0)) :: Ed)) rfl (by decide) (fun _ _ h => h) (fun w1 hw => by rw [List.append_assoc]; exact hw.sub (List.Sublist.cons _ (List.Sublist.cons _ (List.Sublist.trans (List.Sublist.append (List.Sublist.refl _) (List.Sublist.cons_cons _ (List.Sublist.cons_cons _ (List.Sublist.append (List.Sublist.refl _) (List.Sublist.refl _))))) (List.sublist_append_right _ _))))) ⟨congrArg Value.bool (by rw [hdn.1, of_decide_eq_true h61]; rfl), ⟨.slice ad log.length cd, .slice al lo.length cl, Ed, log, lo⟩, rfl, hdn.2.elim (fun h => absurd (by rw [h.1]; rfl) (of_decide_eq_false h57)) (fun h => h.2), ⟨ad, cd, rfl⟩, hEd, al, cl, rfl, hal⟩
   refine s_pass rfl rfl h61 ?_
   refine s_pass rfl rfl h61 ?_
   refine s_pass rfl rfl h61 ?_
   refine s_val (v_pickF (v := .bool _) rfl h61 rfl) ?_
   refine s_val (v_assign (v := .bool _) rfl) ?_
   refine s_nil ?_
   refine c_condFh rfl rfl rfl ?_
   refine r_seq (by kernel_rfl) ?_
   refine s_val (v_field (fo := 0) (by kernel_rfl) rfl) ?_
   refine s_val (v_load1 (v := .int .i64 _) (by kernel_rfl) rfl .here rfl) ?_
   refine s_val (v_eql (k := .i64) rfl rfl) ?_
   refine s_val (v_assign (v := .bool _) rfl) ?_
   refine s_nil ?_
   refine c_condR rfl rfl (fun h68 => ?_) (fun h68 => ?_)
   · have hno := crash_no hcr ha hn10 hn11 (of_decide_eq_false h68) (of_decide_eq_false h61)
     refine c_skip ?_
     refine n_bnormal ?_
     refine n_then ?_
     
     refine r_seq (by kernel_rfl) ?_
     refine s_val (v_move (v := .bool _) rfl) ?_
     refine s_val (v_field (fo := 0) (by kernel_rfl) rfl) ?_
     refine s_val (v_load1 (v := .int .i64 _) (by kernel_rfl) rfl .here rfl) ?_
     refine s_val (v_neq (k := .i64) rfl rfl) ?_
     refine s_val (v_eqlB (by kernel_rfl) rfl rfl) ?_
     refine s_val (v_assign (v := .bool _) rfl) ?_
     refine s_nil ?_
     refine c_ret ?_
     exact n_doneW (B' := B ++ ((bd, .cells #[.slice ad log.length cd] 44 (0, 0)) :: (bl, .cells #[.slice al lo.length cl] 44 (0, 0)) :: Ed)) rfl (by decide) (fun _ _ h => h) (fun w1 hw => by rw [List.append_assoc]; exact hw.sub (List.Sublist.cons _ (List.Sublist.cons _ (List.Sublist.trans (List.Sublist.append (List.Sublist.refl _) (List.Sublist.cons_cons _ (List.Sublist.cons_cons _ (List.Sublist.append (List.Sublist.refl _) (List.Sublist.refl _))))) (List.sublist_append_right _ _))))) ⟨congrArg Value.bool (by rw [hno.1, decide_eq_false (of_decide_eq_false h61)]; rfl), ⟨.slice ad log.length cd, .slice al lo.length cl, Ed, log, lo⟩, rfl, hno.2, ⟨ad, cd, rfl⟩, hEd, al, cl, rfl, hal⟩
   have hwt := crash_went hcr ha hn10 hn11 (of_decide_eq_true h68)
   refine r_list (by kernel_rfl) ?_
   refine s_val (v_load1 (v := .slice ad log.length cd) (by kernel_rfl) rfl (.there (.there (.app (.app .here)))) rfl) ?_
   refine s_val (v_loadA (m := 5) (by kernel_rfl) rfl (.there .here) rfl) ?_
   refine s_build1 (v := .agg _) (e := 23) (m := 5) (by_ := 40) (by kernel_rfl) rfl rfl rfl (fill_one rfl) (fun b74 => ?_)
   refine s_weak (fun w1 hw => hw.perm (List.Perm.cons _ (List.Perm.cons _ (List.Perm.cons _ (List.Perm.append_left E (List.Perm.append_left B (List.Perm.cons _ List.perm_middle.symm))))))) ?_
   refine s_weak (fun w1 hw => hw.perm (List.Perm.cons _ (List.Perm.cons _ (List.Perm.cons _ (List.Perm.append_left E (List.Perm.append_left B List.perm_middle.symm)))))) ?_
   refine s_weak (fun w1 hw => hw.perm (List.Perm.cons _ (List.Perm.cons _ (List.Perm.cons _ (List.Perm.append_left E (perm_front (A := B) (E := Ed))))))) ?_
   refine s_weak (fun w1 hw => hw.perm (List.Perm.cons _ (List.Perm.cons _ (List.Perm.cons _ (perm_front (A := E) (E := Ed)))))) ?_
   refine s_weak (fun w1 hw => hw.perm (List.Perm.cons _ (List.Perm.cons _ List.perm_middle.symm))) ?_
   refine s_weak (fun w1 hw => hw.perm (List.Perm.cons _ List.perm_middle.symm)) ?_
   refine s_push (e := 23) (m := 5) (by_ := 40) (by kernel_rfl) rfl rfl rfl rfl rfl hEd rfl (ActS.all1 _) (by have := hcr.len; omega) (fun v75 E75 hE75 => ?_)
   obtain ⟨a75, c75, rfl⟩ := hE75.shape
   refine s_store1 (v := .slice _ _ _) (by kernel_rfl) rfl rfl (.app (.there (.there (.app (.app .here))))) ⟨Nat.zero_lt_one, rfl⟩ rfl ?_
   refine s_store1 (v := .slice _ _ _) (by kernel_rfl) rfl rfl (.app (.there (.there (.app (.app (.there .here)))))) ⟨Nat.zero_lt_one, rfl⟩ rfl ?_
   refine s_end ?_
   refine n_bnormal ?_
   refine n_then ?_
   
   refine r_seq (by kernel_rfl) ?_
   refine s_val (v_move (v := .bool _) rfl) ?_
   refine s_val (v_field (fo := 0) (by kernel_rfl) rfl) ?_
   refine s_val (v_load1 (v := .int .i64 _) (by kernel_rfl) rfl (.app .here) rfl) ?_
   refine s_val (v_neq (k := .i64) rfl rfl) ?_
   refine s_val (v_eqlB (by kernel_rfl) rfl rfl) ?_
   refine s_val (v_assign (v := .bool _) rfl) ?_
   refine s_nil ?_
   refine c_ret ?_
   exact n_doneW (B' := B ++ ((bd, .cells #[.slice a75 (log.length + 1) c75] 44 (0, 0)) :: (bl, .cells #[.slice none 0 0] 44 (0, 0)) :: E75)) rfl (by decide) (fun _ _ h => h) (fun w1 hw => by rw [List.append_assoc]; exact (hw.sub (List.Sublist.append (List.Sublist.refl _) (List.Sublist.cons _ (List.Sublist.cons _ (List.Sublist.trans (List.Sublist.append (List.Sublist.refl _) (List.Sublist.cons_cons _ (List.Sublist.cons_cons _ (List.Sublist.refl _)))) (List.sublist_append_right _ _)))))).perm (perm_last E75 B _ _ K)) ⟨congrArg Value.bool (by rw [hwt.1, decide_eq_false (of_decide_eq_false h61)]; rfl), ⟨.slice a75 (log.length + 1) c75, .slice none 0 0, E75, log ++ [x], []⟩, rfl, hwt.2, ⟨a75, c75, by rw [List.length_append]; rfl⟩, by rw [flatA_snoc, List.length_append]; exact hE75, none, 0, rfl, .inl rfl⟩
 refine s_want rfl rfl h20 ?_
 refine s_val (v_field (fo := 0) (by kernel_rfl) rfl) ?_
 refine s_want rfl rfl h20 ?_
 refine s_val (v_load1 (v := .int .i64 _) (by kernel_rfl) rfl .here rfl) ?_
 refine s_want rfl rfl h20 ?_
 refine s_val (v_eql (k := .i64) rfl rfl) ?_
 refine s_val (v_pickT (v := .bool _) rfl h20 rfl) ?_
 refine s_val (v_assign (v := .bool _) rfl) ?_
 refine s_nil ?_
 refine c_condR rfl rfl (fun h16 => ?_) (fun h16 => ?_)
 · refine r_seq (by kernel_rfl) ?_
   refine s_val (v_field (fo := 0) (by kernel_rfl) rfl) ?_
   refine s_val (v_load1 (v := .int .i64 _) (by kernel_rfl) rfl (.there .here) rfl) ?_
   refine s_val (v_eql (k := .i64) rfl rfl) ?_
   refine s_val (v_move (v := .bool _) rfl) ?_
   refine s_want rfl rfl (decide_eq_false (by have := of_decide_eq_true h20; omega)) ?_
   refine s_val (v_field (fo := 0) (by kernel_rfl) rfl) ?_
   refine s_want rfl rfl (decide_eq_false (by have := of_decide_eq_true h20; omega)) ?_
   refine s_val (v_load1 (v := .int .i64 _) (by kernel_rfl) rfl (.there .here) rfl) ?_
   refine s_want rfl rfl (decide_eq_false (by have := of_decide_eq_true h20; omega)) ?_
   refine s_val (v_eql (k := .i64) rfl rfl) ?_
   refine s_val (v_pickF (v := .bool _) rfl (decide_eq_false (by have := of_decide_eq_true h20; omega)) rfl) ?_
   refine s_val (v_assign (v := .bool _) rfl) ?_
   refine s_nil ?_
   refine c_condTh rfl rfl h20 ?_
   refine r_seq (by kernel_rfl) ?_
   refine s_val (v_assign (v := .bool _) rfl) ?_
   refine s_nil ?_
   refine c_ret ?_
   refine n_bret ?_
   refine n_ret ?_
   exact n_doneW (B' := B ++ ((bd, .cells #[.slice ad log.length cd] 44 (0, 0)) :: (bl, .cells #[.slice al lo.length cl] 44 (0, 0)) :: Ed)) rfl (by decide) (fun _ _ h => h) (fun w1 hw => by rw [List.append_assoc]; exact hw.sub (List.Sublist.cons _ (List.Sublist.cons _ (List.Sublist.trans (List.Sublist.append (List.Sublist.refl _) (List.Sublist.cons_cons _ (List.Sublist.cons_cons _ (List.Sublist.append (List.Sublist.refl _) (List.Sublist.refl _))))) (List.sublist_append_right _ _))))) ⟨rfl, ⟨.slice ad log.length cd, .slice al lo.length cl, Ed, log, lo⟩, rfl, crash_stay hcr (by first | exact .inl (of_decide_eq_true h52) | exact .inr ⟨of_decide_eq_true h20, of_decide_eq_false h16⟩), ⟨ad, cd, rfl⟩, hEd, al, cl, rfl, hal⟩
 obtain ⟨log1, hlog, hn1, hc1, hps1, hd1, hcr1⟩ := crash_open hcr ha (of_decide_eq_true h20) (of_decide_eq_true h16)
 refine c_seq ?_
 refine r_seq (by kernel_rfl) ?_
 refine s_val (v_field (fo := 1) (by kernel_rfl) rfl) ?_
 refine s_val (v_load1 (v := .int .i64 _) (by kernel_rfl) rfl .here rfl) ?_
 refine s_val (v_load1 (v := .slice ad log.length cd) (by kernel_rfl) rfl (.there (.there (.app (.app .here)))) rfl) ?_
 refine s_val (v_lenS (T := 44) (m := 5) (by kernel_rfl) rfl rfl) ?_
 refine s_val (v_neq (k := .i64) rfl rfl) ?_
 refine s_nil ?_
 refine c_condNR rfl rfl (fun h29 => ?_) (fun h29 => ?_)
 · have hlg : log1 = log := by
     rcases hlog with h | h
     · exact h
     · have e := of_decide_eq_true h29
       rw [hn1, h, List.length_append] at e
       have : lo = [] := List.length_eq_zero_iff.1 (by omega)
       rw [h, this, List.append_nil]
   refine c_skip ?_
   refine n_then ?_
   refine r_seq (by kernel_rfl) ?_
   refine s_store1 (v := .slice _ _ _) (by kernel_rfl) rfl rfl (.there (.there (.app (.app (.there .here))))) ⟨Nat.zero_lt_one, rfl⟩ rfl ?_
   refine s_nil ?_
   refine f_seq (T := (row 33 (Eqv (.pointer (some ⟨b7, 0 + 1, none⟩))) (row 34 (Eqv (I (doM s x).2.n)) (row 35 (Eqv (.slice ad log.length cd)) (row 36 (Eqv (I (log.length : Int))) (row 37 (Eqv (.bool true)) (row 38 (Eqv (.bool true)) (row 39 (Eqv (.pointer (some ⟨b, 0, none⟩))) (row 40 ((HouseR (doM s x).1)) (row 41 (Eqv (.slice ad log.length cd)) (row 42 ((ReplayF log)) (row 43 (Eqv (.bool true)) (row 44 (Eqv (.bool true)) (row 45 (Eqv (.bool true)) (row 46 (Eqv (.bool (!(doM s x).1.down))) (row 47 (Eqv (.bool (!(doM s x).1.down))) (row 8 (Eqv (.bool (!(doM s x).1.down))) (fun _ => Any)))))))))))))))))) (by kernel_rfl) (by kernel_rfl) (by kernel_rfl) (row_mono (eqv_mono _) (row_mono (eqv_mono _) (row_mono (eqv_mono _) (row_mono (eqv_mono _) (row_mono (eqv_mono _) (row_mono (eqv_mono _) (row_mono (eqv_mono _) (row_mono (houseR_mono _) (row_mono (eqv_mono _) (row_mono (replayF_mono _) (row_mono (eqv_mono _) (row_mono (eqv_mono _) (row_mono (eqv_mono _) (row_mono (eqv_mono _) (row_mono (eqv_mono _) (row_mono (eqv_mono _) (fun _ => any_mono))))))))))))))))) ⟨?_, ?_, ?_, ?_, ?_, ?_, ?_, ?_, ?_, ?_, ?_, ?_, ?_, ?_, ?_, ?_, trivial⟩ ?_
   · refine ob_free (fun g w hw hl => ?_)
     have e7 : g 7 = .pointer (some ⟨b7, 0, none⟩) := (hl 7 (of_decide_eq_true (by kernel_rfl))).2 (of_decide_eq_true (by kernel_rfl))
     exact x_val (v_field (fo := 1) (by kernel_rfl) e7) hw rfl
   · refine ob_free (fun g w hw hl => ?_)
     have e33 : g 33 = .pointer (some ⟨b7, 0 + 1, none⟩) := (hl 33 (of_decide_eq_true (by kernel_rfl))).1 (of_decide_eq_true (by kernel_rfl))
     exact x_val (v_load1 (v := I (doM s x).2.n) (by kernel_rfl) e33 .here rfl) hw rfl
   · refine ob_free (fun g w hw hl => ?_)
     have e3 : g 3 = .pointer (some ⟨bd, 0, none⟩) := (hl 3 (of_decide_eq_true (by kernel_rfl))).2 (of_decide_eq_true (by kernel_rfl))
     exact x_val (v_load1 (v := .slice ad log.length cd) (by kernel_rfl) e3 (.there (.there (.app (.app .here)))) rfl) hw rfl
   · refine ob_free (fun g w hw hl => ?_)
     have e35 : g 35 = .slice ad log.length cd := (hl 35 (of_decide_eq_true (by kernel_rfl))).1 (of_decide_eq_true (by kernel_rfl))
     exact x_val (v_lenS (T := 44) (m := 5) (by kernel_rfl) rfl e35) hw rfl
   · refine ob_free (fun g w hw hl => ?_)
     have e34 : g 34 = I (doM s x).2.n := (hl 34 (of_decide_eq_true (by kernel_rfl))).1 (of_decide_eq_true (by kernel_rfl))
     have e36 : g 36 = I (log.length : Int) := (hl 36 (of_decide_eq_true (by kernel_rfl))).1 (of_decide_eq_true (by kernel_rfl))
     exact x_val (v_eql e34 e36) hw (congrArg Value.bool (decide_eq_true (by rw [hn1, hlg])))
   · refine ob_free (fun g w hw hl => ?_)
     have e37 : g 37 = .bool true := (hl 37 (of_decide_eq_true (by kernel_rfl))).1 (of_decide_eq_true (by kernel_rfl))
     exact x_val (v_move (v := .bool true) e37) hw rfl
   · refine ob_want (s := 38) rfl (fun g w hw hl => ?_)
     have e0 : g 0 = .pointer (some ⟨b, 0, none⟩) := (hl 0 (of_decide_eq_true (by kernel_rfl))).2 (of_decide_eq_true (by kernel_rfl))
     have e38 : g 38 = .bool true := (hl 38 (of_decide_eq_true (by kernel_rfl))).1 (of_decide_eq_true (by kernel_rfl))
     refine ⟨e38, ?_⟩
     exact x_val (v_move (v := .pointer (some ⟨b, 0, none⟩)) e0) hw rfl
   · refine ob_want (s := 38) rfl (fun g w hw hl => ?_)
     have e39 : g 39 = .pointer (some ⟨b, 0, none⟩) := (hl 39 (of_decide_eq_true (by kernel_rfl))).1 (of_decide_eq_true (by kernel_rfl))
     have e38 : g 38 = .bool true := (hl 38 (of_decide_eq_true (by kernel_rfl))).1 (of_decide_eq_true (by kernel_rfl))
     refine ⟨e38, ?_⟩
     exact x_callF (vs := [.pointer (some ⟨b, 0, none⟩)]) (by kernel_rfl) (by show [g 39] = _; rw [e39]) ((bk.house w b B _ hg2 (bk.mono hr hw.at) (lies_of hw (fun _ hq => (List.mem_cons_of_mem _ (List.mem_cons_of_mem _ (List.mem_append_right _ (List.mem_append_left _ hq))))))).toF (fun F v E hk hl => houseR_of hk hl)) (fun w' v hb hr => houseR_mono _ _ _ _ (fresh_at _ _) hr)
   · refine ob_want (s := 38) rfl (fun g w hw hl => ?_)
     have e3 : g 3 = .pointer (some ⟨bd, 0, none⟩) := (hl 3 (of_decide_eq_true (by kernel_rfl))).2 (of_decide_eq_true (by kernel_rfl))
     have e38 : g 38 = .bool true := (hl 38 (of_decide_eq_true (by kernel_rfl))).1 (of_decide_eq_true (by kernel_rfl))
     refine ⟨e38, ?_⟩
     exact x_val (v_load1 (v := .slice ad log.length cd) (by kernel_rfl) e3 (.there (.there (.app (.app .here)))) rfl) hw rfl
   · refine ob_want (s := 38) rfl (fun g w hw hl => ?_)
     have e41 : g 41 = .slice ad log.length cd := (hl 41 (of_decide_eq_true (by kernel_rfl))).1 (of_decide_eq_true (by kernel_rfl))
     have e38 : g 38 = .bool true := (hl 38 (of_decide_eq_true (by kernel_rfl))).1 (of_decide_eq_true (by kernel_rfl))
     refine ⟨e38, ?_⟩
     exact x_callF (vs := [.slice ad log.length cd]) (by kernel_rfl) (by show [g 41] = _; rw [e41]) (by have e := rp w _ cd log (list_acts (n := _) hEd (at_known hw (fun _ hq => (List.mem_cons_of_mem _ (List.mem_cons_of_mem _ (List.mem_append_right _ (List.mem_append_right _ (List.mem_cons_of_mem _ (List.mem_cons_of_mem _ (List.mem_append_left _ hq)))))))))) (by have := hcr.len; omega); exact e) (fun w' v hb hr => replayF_mono _ _ _ _ (fresh_at _ _) hr)
   · refine ob_want (s := 38) rfl (fun g w hw hl => ?_)
     obtain ⟨h40, e40, c40, p40, l40⟩ := (show (HouseR (doM s x).1) (At w) (g 40) from (hl 40 (of_decide_eq_true (by kernel_rfl))).1 (of_decide_eq_true (by kernel_rfl)))
     obtain ⟨h42, e42, c42, l42, m42, p42⟩ := (show (ReplayF log) (At w) (g 42) from (hl 42 (of_decide_eq_true (by kernel_rfl))).1 (of_decide_eq_true (by kernel_rfl)))
     have e38 : g 38 = .bool true := (hl 38 (of_decide_eq_true (by kernel_rfl))).1 (of_decide_eq_true (by kernel_rfl))
     refine ⟨e38, ?_⟩
     exact x_call (v := .bool true) (vs := [.agg h40.cells, .agg h42.cells]) (by kernel_rfl) (by show [g 40, g 42] = _; rw [e40, e42]) (by have hq := p40; rw [hps1, hlg] at hq; have hh := gt_sameHouse h40 (replayM log).2 h42 (replayM log).2 w hq p42 (by have := hq.1; have := p42.1; omega); rw [same_core (c40.trans (hc1.trans (by rw [hlg]; exact c42.symm))) (hq.1.symm.trans p42.1)] at hh; exact hh) (fun _ => rfl)
   · refine ob_free (fun g w hw hl => ?_)
     have e38 : g 38 = .bool true := (hl 38 (of_decide_eq_true (by kernel_rfl))).1 (of_decide_eq_true (by kernel_rfl))
     have e43 : g 43 = .bool true := (hl 43 (of_decide_eq_true (by kernel_rfl))).1 (of_decide_eq_true (by kernel_rfl))
     exact x_val (v_pickT (v := .bool true) e38 rfl e43) hw rfl
   · refine ob_free (fun g w hw hl => ?_)
     have e44 : g 44 = .bool true := (hl 44 (of_decide_eq_true (by kernel_rfl))).1 (of_decide_eq_true (by kernel_rfl))
     exact x_val (v_move (v := .bool true) e44) hw rfl
   · refine ob_want (s := 45) rfl (fun g w hw hl => ?_)
     have e10 : g 10 = .bool (!(doM s x).1.down) := (hl 10 (of_decide_eq_true (by kernel_rfl))).2 (of_decide_eq_true (by kernel_rfl))
     have e45 : g 45 = .bool true := (hl 45 (of_decide_eq_true (by kernel_rfl))).1 (of_decide_eq_true (by kernel_rfl))
     refine ⟨e45, ?_⟩
     exact x_val (v_move (v := .bool (!(doM s x).1.down)) e10) hw rfl
   · refine ob_free (fun g w hw hl => ?_)
     have e45 : g 45 = .bool true := (hl 45 (of_decide_eq_true (by kernel_rfl))).1 (of_decide_eq_true (by kernel_rfl))
     have e46 : g 46 = .bool (!(doM s x).1.down) := (hl 46 (of_decide_eq_true (by kernel_rfl))).1 (of_decide_eq_true (by kernel_rfl))
     exact x_val (v_pickT (v := .bool (!(doM s x).1.down)) e45 rfl e46) hw rfl
   · refine ob_free (fun g w hw hl => ?_)
     have e47 : g 47 = .bool (!(doM s x).1.down) := (hl 47 (of_decide_eq_true (by kernel_rfl))).1 (of_decide_eq_true (by kernel_rfl))
     exact x_val (v_assign (v := .bool (!(doM s x).1.down)) e47) hw rfl
   intro g w hw hd he
   have e8 : g 8 = .bool (!(doM s x).1.down) := hd 8 (of_decide_eq_true (by kernel_rfl))
   obtain ⟨g1, hg1⟩ : ∃ g1, g = (upd g1 8 (.bool (!(doM s x).1.down))) := ⟨g, live1 e8⟩
   rw [hg1]
   refine cC_at ?_ hw
   refine c_ret ?_
   refine n_bret ?_
   refine n_ret ?_
   refine n_doneW (B' := B ++ ((bd, .cells #[.slice ad log.length cd] 44 (0, 0)) :: (bl, .cells #[.slice none 0 0] 44 (0, 0)) :: Ed)) rfl (by decide) (fun _ _ h => h) (fun w1 hw => by rw [List.append_assoc]; exact hw.sub (List.Sublist.cons _ (List.Sublist.cons _ (List.Sublist.trans (List.Sublist.append (List.Sublist.refl _) (List.Sublist.cons_cons _ (List.Sublist.cons_cons _ (List.Sublist.append (List.Sublist.refl _) (List.Sublist.refl _))))) (List.sublist_append_right _ _))))) ⟨congrArg Value.bool (by rw [hd1]; rfl), ⟨.slice ad log.length cd, .slice none 0 0, Ed, log, []⟩, rfl, by rw [hlg] at hcr1; exact hcr1, ⟨ad, cd, rfl⟩, hEd, none, 0, rfl, .inl rfl⟩
 obtain ⟨x0, hx0⟩ : ∃ x0, lo = [x0] := by
   rcases hlog with h | h
   · exact absurd (by rw [hn1, h]) (of_decide_eq_false h29)
   · have hl := hcr.len.2
     cases lo with
     | nil => exact absurd (by rw [hn1, h]; simp) (of_decide_eq_false h29)
     | cons y r => cases r with
       | nil => exact ⟨y, rfl⟩
       | cons z r => simp at hl
 subst hx0
 have hlg : log1 = log ++ [x0] := by
   rcases hlog with h | h
   · exact absurd (by rw [hn1, h]) (of_decide_eq_false h29)
   · exact h
 refine r_list (by kernel_rfl) ?_
 refine s_val (v_load1 (v := .slice ad log.length cd) (by kernel_rfl) rfl (.there (.there (.app (.app .here)))) rfl) ?_
 refine s_val (v_load1 (v := .slice al 1 cl) (by kernel_rfl) rfl (.there (.there (.app (.app (.there .here))))) rfl) ?_
 refine s_weak (fun w1 hw => hw.perm (List.Perm.cons _ (List.Perm.cons _ (List.Perm.append_left E (List.Perm.append_left B (List.Perm.cons _ List.perm_middle.symm)))))) ?_
 refine s_weak (fun w1 hw => hw.perm (List.Perm.cons _ (List.Perm.cons _ (List.Perm.append_left E (List.Perm.append_left B List.perm_middle.symm))))) ?_
 refine s_weak (fun w1 hw => hw.perm (List.Perm.cons _ (List.Perm.cons _ (List.Perm.append_left E (perm_front (A := B) (E := Ed)))))) ?_
 refine s_weak (fun w1 hw => hw.perm (List.Perm.cons _ (List.Perm.cons _ (perm_front (A := E) (E := Ed))))) ?_
 refine s_weak (fun w1 hw => hw.perm (List.Perm.cons _ List.perm_middle.symm)) ?_
 refine s_weak (fun w1 hw => hw.perm List.perm_middle.symm) ?_
 refine s_pushAct (e := 23) (by_ := 40) (by kernel_rfl) rfl rfl rfl rfl hEd hal (by have := hcr.len; omega) (fun v32 E32 hE32 => ?_)
 obtain ⟨a32, c32, rfl⟩ := hE32.shape
 refine s_store1 (v := .slice _ _ _) (by kernel_rfl) rfl rfl (.app (.there (.there (.app (.app .here))))) ⟨Nat.zero_lt_one, rfl⟩ rfl ?_
 refine s_end ?_
 refine n_then ?_
 refine r_seq (by kernel_rfl) ?_
 refine s_store1 (v := .slice _ _ _) (by kernel_rfl) rfl rfl (.app (.there (.there (.app (.app (.there .here)))))) ⟨Nat.zero_lt_one, rfl⟩ rfl ?_
 refine s_nil ?_
 refine f_seq (T := (row 33 (Eqv (.pointer (some ⟨b7, 0 + 1, none⟩))) (row 34 (Eqv (I (doM s x).2.n)) (row 35 (Eqv (.slice a32 (log.length + 1) c32)) (row 36 (Eqv (I ((log.length + 1 : Nat) : Int))) (row 37 (Eqv (.bool true)) (row 38 (Eqv (.bool true)) (row 39 (Eqv (.pointer (some ⟨b, 0, none⟩))) (row 40 ((HouseR (doM s x).1)) (row 41 (Eqv (.slice a32 (log.length + 1) c32)) (row 42 ((ReplayF (log ++ [x0]))) (row 43 (Eqv (.bool true)) (row 44 (Eqv (.bool true)) (row 45 (Eqv (.bool true)) (row 46 (Eqv (.bool (!(doM s x).1.down))) (row 47 (Eqv (.bool (!(doM s x).1.down))) (row 8 (Eqv (.bool (!(doM s x).1.down))) (fun _ => Any)))))))))))))))))) (by kernel_rfl) (by kernel_rfl) (by kernel_rfl) (row_mono (eqv_mono _) (row_mono (eqv_mono _) (row_mono (eqv_mono _) (row_mono (eqv_mono _) (row_mono (eqv_mono _) (row_mono (eqv_mono _) (row_mono (eqv_mono _) (row_mono (houseR_mono _) (row_mono (eqv_mono _) (row_mono (replayF_mono _) (row_mono (eqv_mono _) (row_mono (eqv_mono _) (row_mono (eqv_mono _) (row_mono (eqv_mono _) (row_mono (eqv_mono _) (row_mono (eqv_mono _) (fun _ => any_mono))))))))))))))))) ⟨?_, ?_, ?_, ?_, ?_, ?_, ?_, ?_, ?_, ?_, ?_, ?_, ?_, ?_, ?_, ?_, trivial⟩ ?_
 · refine ob_free (fun g w hw hl => ?_)
   have e7 : g 7 = .pointer (some ⟨b7, 0, none⟩) := (hl 7 (of_decide_eq_true (by kernel_rfl))).2 (of_decide_eq_true (by kernel_rfl))
   exact x_val (v_field (fo := 1) (by kernel_rfl) e7) hw rfl
 · refine ob_free (fun g w hw hl => ?_)
   have e33 : g 33 = .pointer (some ⟨b7, 0 + 1, none⟩) := (hl 33 (of_decide_eq_true (by kernel_rfl))).1 (of_decide_eq_true (by kernel_rfl))
   exact x_val (v_load1 (v := I (doM s x).2.n) (by kernel_rfl) e33 (.app .here) rfl) hw rfl
 · refine ob_free (fun g w hw hl => ?_)
   have e3 : g 3 = .pointer (some ⟨bd, 0, none⟩) := (hl 3 (of_decide_eq_true (by kernel_rfl))).2 (of_decide_eq_true (by kernel_rfl))
   exact x_val (v_load1 (v := .slice a32 (log.length + 1) c32) (by kernel_rfl) e3 (.app (.there (.there (.app (.app .here))))) rfl) hw rfl
 · refine ob_free (fun g w hw hl => ?_)
   have e35 : g 35 = .slice a32 (log.length + 1) c32 := (hl 35 (of_decide_eq_true (by kernel_rfl))).1 (of_decide_eq_true (by kernel_rfl))
   exact x_val (v_lenS (T := 44) (m := 5) (by kernel_rfl) rfl e35) hw rfl
 · refine ob_free (fun g w hw hl => ?_)
   have e34 : g 34 = I (doM s x).2.n := (hl 34 (of_decide_eq_true (by kernel_rfl))).1 (of_decide_eq_true (by kernel_rfl))
   have e36 : g 36 = I ((log.length + 1 : Nat) : Int) := (hl 36 (of_decide_eq_true (by kernel_rfl))).1 (of_decide_eq_true (by kernel_rfl))
   exact x_val (v_eql e34 e36) hw (congrArg Value.bool (decide_eq_true (by rw [hn1, hlg]; simp)))
 · refine ob_free (fun g w hw hl => ?_)
   have e37 : g 37 = .bool true := (hl 37 (of_decide_eq_true (by kernel_rfl))).1 (of_decide_eq_true (by kernel_rfl))
   exact x_val (v_move (v := .bool true) e37) hw rfl
 · refine ob_want (s := 38) rfl (fun g w hw hl => ?_)
   have e0 : g 0 = .pointer (some ⟨b, 0, none⟩) := (hl 0 (of_decide_eq_true (by kernel_rfl))).2 (of_decide_eq_true (by kernel_rfl))
   have e38 : g 38 = .bool true := (hl 38 (of_decide_eq_true (by kernel_rfl))).1 (of_decide_eq_true (by kernel_rfl))
   refine ⟨e38, ?_⟩
   exact x_val (v_move (v := .pointer (some ⟨b, 0, none⟩)) e0) hw rfl
 · refine ob_want (s := 38) rfl (fun g w hw hl => ?_)
   have e39 : g 39 = .pointer (some ⟨b, 0, none⟩) := (hl 39 (of_decide_eq_true (by kernel_rfl))).1 (of_decide_eq_true (by kernel_rfl))
   have e38 : g 38 = .bool true := (hl 38 (of_decide_eq_true (by kernel_rfl))).1 (of_decide_eq_true (by kernel_rfl))
   refine ⟨e38, ?_⟩
   exact x_callF (vs := [.pointer (some ⟨b, 0, none⟩)]) (by kernel_rfl) (by show [g 39] = _; rw [e39]) ((bk.house w b B _ hg2 (bk.mono hr hw.at) (lies_of hw (fun _ hq => (List.mem_append_right _ (List.mem_cons_of_mem _ (List.mem_cons_of_mem _ (List.mem_append_right _ (List.mem_append_left _ hq)))))))).toF (fun F v E hk hl => houseR_of hk hl)) (fun w' v hb hr => houseR_mono _ _ _ _ (fresh_at _ _) hr)
 · refine ob_want (s := 38) rfl (fun g w hw hl => ?_)
   have e3 : g 3 = .pointer (some ⟨bd, 0, none⟩) := (hl 3 (of_decide_eq_true (by kernel_rfl))).2 (of_decide_eq_true (by kernel_rfl))
   have e38 : g 38 = .bool true := (hl 38 (of_decide_eq_true (by kernel_rfl))).1 (of_decide_eq_true (by kernel_rfl))
   refine ⟨e38, ?_⟩
   exact x_val (v_load1 (v := .slice a32 (log.length + 1) c32) (by kernel_rfl) e3 (.app (.there (.there (.app (.app .here))))) rfl) hw rfl
 · refine ob_want (s := 38) rfl (fun g w hw hl => ?_)
   have e41 : g 41 = .slice a32 (log.length + 1) c32 := (hl 41 (of_decide_eq_true (by kernel_rfl))).1 (of_decide_eq_true (by kernel_rfl))
   have e38 : g 38 = .bool true := (hl 38 (of_decide_eq_true (by kernel_rfl))).1 (of_decide_eq_true (by kernel_rfl))
   refine ⟨e38, ?_⟩
   exact x_callF (vs := [.slice a32 (log.length + 1) c32]) (by kernel_rfl) (by show [g 41] = _; rw [e41]) (by have e := rp w _ c32 (log ++ [x0]) (list_acts (n := _) (by rw [flatA_snoc, List.length_append]; exact hE32) (at_known hw (fun _ hq => (List.mem_append_left _ hq)))) (by have := hcr.len; simp only [List.length_append, List.length_cons, List.length_nil]; omega); rw [List.length_append] at e; exact e) (fun w' v hb hr => replayF_mono _ _ _ _ (fresh_at _ _) hr)
 · refine ob_want (s := 38) rfl (fun g w hw hl => ?_)
   obtain ⟨h40, e40, c40, p40, l40⟩ := (show (HouseR (doM s x).1) (At w) (g 40) from (hl 40 (of_decide_eq_true (by kernel_rfl))).1 (of_decide_eq_true (by kernel_rfl)))
   obtain ⟨h42, e42, c42, l42, m42, p42⟩ := (show (ReplayF (log ++ [x0])) (At w) (g 42) from (hl 42 (of_decide_eq_true (by kernel_rfl))).1 (of_decide_eq_true (by kernel_rfl)))
   have e38 : g 38 = .bool true := (hl 38 (of_decide_eq_true (by kernel_rfl))).1 (of_decide_eq_true (by kernel_rfl))
   refine ⟨e38, ?_⟩
   exact x_call (v := .bool true) (vs := [.agg h40.cells, .agg h42.cells]) (by kernel_rfl) (by show [g 40, g 42] = _; rw [e40, e42]) (by have hq := p40; rw [hps1, hlg] at hq; have hh := gt_sameHouse h40 (replayM (log ++ [x0])).2 h42 (replayM (log ++ [x0])).2 w hq p42 (by have := hq.1; have := p42.1; omega); rw [same_core (c40.trans (hc1.trans (by rw [hlg]; exact c42.symm))) (hq.1.symm.trans p42.1)] at hh; exact hh) (fun _ => rfl)
 · refine ob_free (fun g w hw hl => ?_)
   have e38 : g 38 = .bool true := (hl 38 (of_decide_eq_true (by kernel_rfl))).1 (of_decide_eq_true (by kernel_rfl))
   have e43 : g 43 = .bool true := (hl 43 (of_decide_eq_true (by kernel_rfl))).1 (of_decide_eq_true (by kernel_rfl))
   exact x_val (v_pickT (v := .bool true) e38 rfl e43) hw rfl
 · refine ob_free (fun g w hw hl => ?_)
   have e44 : g 44 = .bool true := (hl 44 (of_decide_eq_true (by kernel_rfl))).1 (of_decide_eq_true (by kernel_rfl))
   exact x_val (v_move (v := .bool true) e44) hw rfl
 · refine ob_want (s := 45) rfl (fun g w hw hl => ?_)
   have e10 : g 10 = .bool (!(doM s x).1.down) := (hl 10 (of_decide_eq_true (by kernel_rfl))).2 (of_decide_eq_true (by kernel_rfl))
   have e45 : g 45 = .bool true := (hl 45 (of_decide_eq_true (by kernel_rfl))).1 (of_decide_eq_true (by kernel_rfl))
   refine ⟨e45, ?_⟩
   exact x_val (v_move (v := .bool (!(doM s x).1.down)) e10) hw rfl
 · refine ob_free (fun g w hw hl => ?_)
   have e45 : g 45 = .bool true := (hl 45 (of_decide_eq_true (by kernel_rfl))).1 (of_decide_eq_true (by kernel_rfl))
   have e46 : g 46 = .bool (!(doM s x).1.down) := (hl 46 (of_decide_eq_true (by kernel_rfl))).1 (of_decide_eq_true (by kernel_rfl))
   exact x_val (v_pickT (v := .bool (!(doM s x).1.down)) e45 rfl e46) hw rfl
 · refine ob_free (fun g w hw hl => ?_)
   have e47 : g 47 = .bool (!(doM s x).1.down) := (hl 47 (of_decide_eq_true (by kernel_rfl))).1 (of_decide_eq_true (by kernel_rfl))
   exact x_val (v_assign (v := .bool (!(doM s x).1.down)) e47) hw rfl
 intro g w hw hd he
 have e8 : g 8 = .bool (!(doM s x).1.down) := hd 8 (of_decide_eq_true (by kernel_rfl))
 obtain ⟨g1, hg1⟩ : ∃ g1, g = (upd g1 8 (.bool (!(doM s x).1.down))) := ⟨g, live1 e8⟩
 rw [hg1]
 refine cC_at ?_ hw
 refine c_ret ?_
 refine n_bret ?_
 refine n_ret ?_
 refine n_doneW (B' := B ++ ((bd, .cells #[.slice a32 (log.length + 1) c32] 44 (0, 0)) :: (bl, .cells #[.slice none 0 0] 44 (0, 0)) :: E32)) rfl (by decide) (fun _ _ h => h) (fun w1 hw => by rw [List.append_assoc]; exact (hw.sub (List.Sublist.append (List.Sublist.refl _) (List.Sublist.cons _ (List.Sublist.cons _ (List.Sublist.trans (List.Sublist.append (List.Sublist.refl _) (List.Sublist.cons_cons _ (List.Sublist.cons_cons _ (List.Sublist.refl _)))) (List.sublist_append_right _ _)))))).perm (perm_last E32 B _ _ K)) ⟨congrArg Value.bool (by rw [hd1]; rfl), ⟨.slice a32 (log.length + 1) c32, .slice none 0 0, E32, (log ++ [x0]), []⟩, rfl, by rw [hlg] at hcr1; exact hcr1, ⟨a32, c32, by rw [List.length_append]; rfl⟩, by rw [flatA_snoc, List.length_append]; exact hE32, none, 0, rfl, .inl rfl⟩
set_option maxHeartbeats 1000000 in
theorem law_TopCrash (bk : BankOk) (rp : ∀ (w : World) (a : Option Addr) (c : Nat) (l : List ActS), ActsAt (At w) a l → l.length ≤ 9223372036854775807 → GivesF Try.prog 34 [.slice a l.length c] w (ReplayF l)) (a0 : Option Addr) (c0 : Nat) (xs : List ActS) (w : World) (hx : ActsAt (At w) a0 xs) (hlx : xs.length ≤ 9223372036854775807) : Gives Try.prog 9 [.slice a0 xs.length c0] w (.bool true) := by
 refine gives_of Try.func9 rfl Try.ntmps9 (by simp) ?_
 refine r_seq (by kernel_rfl) ?_
 refine s_val (v_assign (v := .bool _) rfl) ?_
 refine s_nil ?_
 refine r_seq (by kernel_rfl) ?_
 refine s_alloc (z := .slice none 0 0) (by kernel_rfl) (fun b3 => ?_)
 refine s_nil ?_
 refine r_seq (by kernel_rfl) ?_
 refine s_alloc (z := .slice none 0 0) (by kernel_rfl) (fun b4 => ?_)
 refine s_nil ?_
 refine r_seq (by kernel_rfl) ?_
 refine s_val (v_move (v := .slice _ _ _) rfl) ?_
 refine s_val (v_makeFunc (vs := [.pointer (some ⟨b3, 0, none⟩), .pointer (some ⟨b4, 0, none⟩)]) rfl) ?_
 refine s_weak (fun w1 hw => hw.perm (List.Perm.swap _ _ _)) ?_
 refine s_callW (B := [(b3, .cells #[.slice none 0 0] 44 (0, 0)), (b4, .cells #[.slice none 0 0] 44 (0, 0))]) (by kernel_rfl) (g_play bk (fun k : CrG => (b3, Obj.cells #[k.vd] 44 (0, 0)) :: (b4, Obj.cells #[k.vl] 44 (0, 0)) :: k.E) (fun _ s k F => crJ s k F) a0 c0 xs 32 [.pointer (some ⟨b3, 0, none⟩), .pointer (some ⟨b4, 0, none⟩)] (At w) ⟨.slice none 0 0, .slice none 0 0, [], [], []⟩ hx hlx ⟨cr_new, ⟨none, 0, rfl⟩, listE_nil _ _, none, 0, rfl, .inl rfl⟩ (fun h hm => crJ_mono h hm) (by kernel_rfl) (by
   rintro F1 i s ⟨vd, vl, Ed, log, lo⟩ x b B E a1 c1 hF hxk hi ⟨h1, ⟨ad, cd, h2⟩, h3, al, cl, h4, h5⟩ hg hs hr ho
   dsimp only at h1 h2 h3 h4 h5
   subst h2 h4
   have ha : s.acts < 200 := by rw [hs, new_acts _ (by rw [List.length_take]; omega), List.length_take]; omega
   exact fun w0 K w hw => (look_TopCrash bk F1 s x b B E a1 c1 rp b3 b4 ad al cd cl Ed log lo hg hr ha h1 h3 h5 w0 K w hw).mono fun e w' ⟨v, B', F', g1, g2, g3, g4, k, g5, g6⟩ => ⟨v, B', F', g1, g2, g3, g4, k, g5, g6⟩)) (fun F10 v10 B100 hF10 hR10 => ?_)
 obtain ⟨b10, B10, c10, rfl, rfl, hr10, hg10, hJ10⟩ := hR10
 refine s_val (v_move (v := .tuple _) rfl) ?_
 refine s_val (v_extract rfl rfl) ?_
 refine s_val (v_extract rfl rfl) ?_
 refine s_val (v_assign (v := .pointer _) rfl) ?_
 refine s_val (v_assign (v := .bool _) rfl) ?_
 refine s_nil ?_
 refine r_seq (by kernel_rfl) ?_
 refine s_val (v_move (v := .bool _) rfl) ?_
 refine s_val (v_assign (v := .bool _) rfl) ?_
 refine s_nil ?_
 refine c_ret ?_
 refine n_done rfl (by decide) (Eq.trans (b := .bool _) rfl (congrArg Value.bool ?_))
 rfl
end Go.Proofs.Ytmkboljfbmlebab
