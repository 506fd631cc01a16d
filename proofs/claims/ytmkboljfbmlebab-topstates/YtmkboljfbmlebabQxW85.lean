/- The law TopStates. Condition: a bank that keeps its contracts. -/
import Derived.Test.YtmkboljfbmlebabQ13
import Derived.Test.YtmkboljfbmlebabQxW80
namespace Go.Proofs.Ytmkboljfbmlebab
open Go.RowKit
set_option linter.unusedSimpArgs false
set_option linter.unusedVariables false
set_option maxRecDepth 100000
attribute [local irreducible] cC sC nC rC qw
set_option maxHeartbeats 1000000 in
theorem look_TopStates (bk : BankOk) (F : Addr → Value → Prop) (s : BankS) (x : ActS) (b : Nat) (B E : List (Nat × Obj)) (a1 : Option Addr) (c1 : Nat) (bw : Nat) (was : H) (hg : BGood s) (hr : bk.Rep F b B (doM s x).1) (ho : IntsO (doM s x).2.done (.slice a1 (doM s x).2.done.length c1) E) (hpw0 : PaysIn F was.pa was.pl s.ps) : GivesW Try.prog 31 [.pointer (some ⟨b, 0, none⟩), .agg x.cells, repOf (doM s x).2 (.slice a1 (doM s x).2.done.length c1), .pointer (some ⟨bw, 0, none⟩)] F (E ++ (B ++ [(bw, .cells was.cells 41 (0, 0))])) (fun F2 v B' => v = .bool true ∧ ∃ h : H, PaysIn F2 h.pa h.pl (doM s x).1.ps ∧ B' = B ++ [(bw, .cells h.cells 41 (0, 0))]) := by
 refine givesW_of Try.func31 rfl Try.ntmps31 (by simp) (fun w K => ?_)
 refine c_weak (fun w1 hw => show Has w F (E ++ (B ++ ([(bw, .cells was.cells 41 (0, 0))] ++ K))) w1 from (by rw [← List.append_assoc, ← List.append_assoc, List.append_assoc E]; exact hw)) ?_
 have hg2 := hg.act x
 refine c_forget (fun F1 hF1 hK1 => ?_)
 have hid := IntsO.known ho hK1
 have hr1 := bk.mono hr hF1
 refine r_seq (by kernel_rfl) ?_
 refine s_box (v := .agg _) rfl (fun b5 => ?_)
 refine s_box (v := .agg _) rfl (fun b6 => ?_)
 refine s_val (v_assign (v := .bool _) rfl) ?_
 refine s_nil ?_
 refine r_seq (by kernel_rfl) ?_
 refine s_val (v_move (v := .pointer _) rfl) ?_
 refine s_callF (by kernel_rfl) (fun w hw => bk.house w b B _ hg2 (bk.mono hr1 hw.at) (lies_of hw (fun _ hq => (List.mem_cons_of_mem _ (List.mem_cons_of_mem _ (List.mem_append_left _ hq)))))) (fun F17 v17 E17 hF17 hK17 hR17 => ?_)
 obtain ⟨h17, rfl, hc17, ho17⟩ := hR17
 have hp17 := ho17.known hK17
 have hlc17 := ho17.2.1
 have hl2417 : h17.pl ≤ 24 := by have := (bgood_inv hg2).1.len; have := hp17.1; omega
 refine s_alloc (z := .agg zeroH.cells) (by kernel_rfl) (fun b8 => ?_)
 refine s_storeA (m := 42) (by kernel_rfl) rfl rfl .here (H.size _) (H.size _) (H.all1 _) ?_
 refine s_nil ?_
 refine c_seq ?_
 refine r_seq (by kernel_rfl) ?_
 refine s_val (v_field (fo := 0) (by kernel_rfl) rfl) ?_
 refine s_val (v_load1 (v := .int .i64 _) (by kernel_rfl) rfl (.there (.there .here)) rfl) ?_
 refine s_val (v_eql (k := .i64) rfl rfl) ?_
 refine s_nil ?_
 refine c_cond rfl rfl (fun h20 => ?_) (fun h20 => ?_)
 · refine r_seq (by kernel_rfl) ?_
   refine s_val (v_loadA (m := 42) (by kernel_rfl) rfl .here (H.size _)) ?_
   refine s_storeA (m := 42) (by kernel_rfl) rfl rfl (.there (.there (.there (.app .here)))) (H.size _) (H.size _) (H.all1 _) ?_
   refine s_nil ?_
   refine r_seq (by kernel_rfl) ?_
   refine s_val (v_assign (v := .bool _) rfl) ?_
   refine s_nil ?_
   refine c_ret ?_
   refine n_ret ?_
   exact n_doneW (B' := B ++ [(bw, .cells h17.cells 41 (0, 0))]) rfl (by decide) (fun a v h => hF17 a v (hF1 a v h)) (fun w1 hw => by rw [List.append_assoc]; exact hw.sub (List.Sublist.cons _ (List.Sublist.cons _ (List.Sublist.cons _ (List.Sublist.refl _))))) ⟨rfl, h17, hp17, rfl⟩
 refine c_skip ?_
 refine n_then ?_
 refine c_seq ?_
 have htold := told_do hg (of_decide_eq_false h20)
 have hpw := (hpw0.mono hF1).mono hF17
 have hdl : (doM s x).2.done.length ≤ 24 := by have := told_len htold; have := hp17.1; omega
 refine r_seq (by kernel_rfl) ?_
 refine s_val (v_field (fo := 40) (by kernel_rfl) rfl) ?_
 refine s_val (v_load1 (v := .slice _ _ _) (by kernel_rfl) rfl .here (H.at_pays _)) ?_
 refine s_val (v_lenS (T := 39) (m := 6) (by kernel_rfl) rfl rfl) ?_
 refine s_val (v_field (fo := 40) (by kernel_rfl) rfl) ?_
 refine s_val (v_load1 (v := .slice _ _ _) (by kernel_rfl) rfl (.there (.there (.there (.app .here)))) (H.at_pays _)) ?_
 refine s_val (v_lenS (T := 39) (m := 6) (by kernel_rfl) rfl rfl) ?_
 refine s_val (v_lss (k := .i64) rfl rfl) ?_
 refine s_nil ?_
 refine c_condFh rfl rfl (decide_eq_false (by have := htold.len; have := hp17.1; have := hpw.1; omega)) ?_
 refine c_skip ?_
 refine n_then ?_
 refine r_seq (by kernel_rfl) ?_
 refine s_val (v_assign (v := .int .i64 _) rfl) ?_
 refine s_nil ?_
 refine c_seq ?_
 refine r_seq (by kernel_rfl) ?_
 refine s_val (v_field (fo := 40) (by kernel_rfl) rfl) ?_
 refine s_val (v_load1 (v := .slice _ _ _) (by kernel_rfl) rfl .here (H.at_pays _)) ?_
 refine s_val (v_lenS (T := 39) (m := 6) (by kernel_rfl) rfl rfl) ?_
 refine s_val (v_move (v := .int .i64 _) rfl) ?_
 refine s_nil ?_
 refine c_block ?_
 refine c_loop (σ := Nat) (fun (k : Nat) f => ∃ g, (k ≤ h17.pl) ∧ f = (upd (upd (upd (upd (upd (upd (upd g 3 (.pointer (some ⟨bw, 0, none⟩))) 6 (.pointer (some ⟨b6, 0, none⟩))) 8 (.pointer (some ⟨b8, 0, none⟩))) 9 (I (nowTo (doM s x).2.done k))) 30 (.slice h17.pa h17.pl h17.pc)) 31 (I h17.pl)) 32 (I k))) (fun (k : Nat) => Has w F17 ((b8, .cells h17.cells 41) :: (b6, .cells ((repC (doM s x).2.code (doM s x).2.n (.slice a1 (doM s x).2.done.length c1))) 31) :: (b5, .cells x.cells 23) :: (B ++ ((bw, .cells was.cells 41 (0, 0)) :: K)))) (fun (k : Nat) => h17.pl - k) 0 ⟨_, Nat.zero_le _, live7 rfl rfl rfl rfl rfl rfl rfl⟩ (fun w hw => hw) ?_
 rintro k _ ⟨g, hkl, rfl⟩
 refine r_seq (by kernel_rfl) ?_
 refine s_val (v_lss (k := .i64) rfl rfl) ?_
 refine s_nil ?_
 refine c_seq ?_
 refine c_condR rfl rfl (fun h33 => ?_) (fun h33 => ?_)
 · have hkk : k = h17.pl := by have := of_decide_eq_false h33; omega
   refine c_exit ?_
   refine n_exit ?_
   refine n_exit ?_
   refine n_bhere ?_
   refine n_then ?_
   refine r_seq (by kernel_rfl) ?_
   refine s_val (v_loadA (m := 42) (by kernel_rfl) rfl .here (H.size _)) ?_
   refine s_storeA (m := 42) (by kernel_rfl) rfl rfl (.there (.there (.there (.app .here)))) (H.size _) (H.size _) (H.all1 _) ?_
   refine s_nil ?_
   refine r_seq (by kernel_rfl) ?_
   refine s_val (v_move (v := .int .i64 _) rfl) ?_
   refine s_val (v_field (fo := 2) (by kernel_rfl) rfl) ?_
   refine s_val (v_load1 (v := .slice _ _ _) (by kernel_rfl) rfl (.there .here) rfl) ?_
   refine s_val (v_lenS (T := 29) (m := 1) (by kernel_rfl) rfl rfl) ?_
   refine s_val (v_eql (k := .i64) rfl rfl) ?_
   refine s_val (v_assign (v := .bool _) rfl) ?_
   refine s_nil ?_
   refine c_ret ?_
   exact n_doneW (B' := B ++ [(bw, .cells h17.cells 41 (0, 0))]) rfl (by decide) (fun a v h => hF17 a v (hF1 a v h)) (fun w1 hw => by rw [List.append_assoc]; exact hw.sub (List.Sublist.cons _ (List.Sublist.cons _ (List.Sublist.cons _ (List.Sublist.refl _))))) ⟨congrArg Value.bool (decide_eq_true (by rw [hkk, now_all _ _ htold.once (fun i hi => by have := htold.range i hi; have := hp17.1; omega)])), h17, hp17, rfl⟩
 have hk0 := of_decide_eq_true h33
 obtain ⟨p, hpk, hd, ht⟩ := hp17.get (k := k) (by omega)
 obtain ⟨bp, op, hpa, hc⟩ := hp17.some (k := k) (by omega)
 have hnl := now_le (doM s x).2.done k
 refine c_skip ?_
 refine n_then ?_
 refine c_seq ?_
 refine c_block ?_
 refine r_seq (by kernel_rfl) ?_
 refine s_val (v_move (v := .int .i64 _) rfl) ?_
 refine s_val (v_idxS (size := 6) (k := .i64) (by kernel_rfl) (congrArg (fun a => Value.slice a h17.pl h17.pc) hpa) rfl ⟨by omega, by omega⟩) ?_
 refine s_val (v_loadNo (cs := p.cells) (m := 6) (by kernel_rfl) rfl rfl (hc k p hpk)) ?_
 refine s_alloc (z := zeroOf Try.prog 50) (by kernel_rfl) (fun b11 => ?_)
 refine s_val (v_assign (v := .int .i64 _) rfl) ?_
 refine s_storeA (m := 6) (by kernel_rfl) rfl rfl .here (by kernel_rfl) rfl (PayS.all1 _) ?_
 refine s_nil ?_
 refine c_cut (fun f => ∃ g, f = (upd (upd (upd (upd (upd (upd (upd (upd (upd (upd g 3 (.pointer (some ⟨bw, 0, none⟩))) 6 (.pointer (some ⟨b6, 0, none⟩))) 8 (.pointer (some ⟨b8, 0, none⟩))) 9 (I (nowTo (doM s x).2.done k))) 10 (I k)) 11 (.pointer (some ⟨b11, 0, none⟩))) 12 (.bool (decide ((k : Int) ∈ (doM s x).2.done)))) 30 (.slice h17.pa h17.pl h17.pc)) 31 (I h17.pl)) 32 (I k))) (Has w F17 ((b11, .cells p.cells 50) :: (b8, .cells h17.cells 41) :: (b6, .cells ((repC (doM s x).2.code (doM s x).2.n (.slice a1 (doM s x).2.done.length c1))) 31) :: (b5, .cells x.cells 23) :: (B ++ ((bw, .cells was.cells 41 (0, 0)) :: K)))) ?_ ?_
 · refine r_list (by kernel_rfl) ?_
   refine s_val (v_field (fo := 4) (by kernel_rfl) rfl) ?_
   refine s_val (v_load1 (v := .int .i64 _) (by kernel_rfl) rfl .here rfl) ?_
   refine s_val (v_eql (k := .i64) rfl rfl) ?_
   refine s_val (v_move (v := .bool _) rfl) ?_
   refine s_splitR (s := 40) rfl (fun h40 => ?_) (fun h40 => ?_)
   · refine s_pass rfl rfl h40 ?_
     refine s_pass rfl rfl h40 ?_
     refine s_pass rfl rfl h40 ?_
     refine s_pass rfl rfl h40 ?_
     refine s_pass rfl rfl h40 ?_
     refine s_pass rfl rfl h40 ?_
     refine s_passU rfl rfl ?_
     refine s_passU rfl rfl ?_
     refine s_passU rfl rfl ?_
     refine s_passU rfl rfl ?_
     refine s_passU rfl rfl ?_
     refine s_passU rfl rfl ?_
     refine s_passU rfl rfl ?_
     refine s_pass rfl rfl h40 ?_
     refine s_val (v_pickF (v := .bool _) rfl h40 rfl) ?_
     refine s_val (v_assign (v := .bool _) rfl) ?_
     refine s_end ?_
     refine n_cut ⟨_, live10 rfl rfl rfl rfl rfl rfl (congrArg Value.bool (now_a htold hpk (of_decide_eq_false h40))) rfl rfl rfl⟩ (fun _ hw => hw)
   refine s_want rfl rfl h40 ?_
   refine s_val (v_move (v := .int .i64 _) rfl) ?_
   refine s_want rfl rfl h40 ?_
   refine s_val (v_field (fo := 40) (by kernel_rfl) rfl) ?_
   refine s_want rfl rfl h40 ?_
   refine s_val (v_load1 (v := .slice _ _ _) (by kernel_rfl) rfl (.there (.there (.there (.there (.app .here))))) (H.at_pays _)) ?_
   refine s_want rfl rfl h40 ?_
   refine s_val (v_lenS (T := 39) (m := 6) (by kernel_rfl) rfl rfl) ?_
   refine s_want rfl rfl h40 ?_
   refine s_val (v_geq (k := .i64) rfl rfl) ?_
   refine s_want rfl rfl h40 ?_
   refine s_val (v_move (v := .bool _) rfl) ?_
   refine s_split (s := 46) rfl (fun h46 => ?_) (fun h46 => ?_)
   · refine s_pass rfl rfl h46 ?_
     refine s_pass rfl rfl h46 ?_
     refine s_pass rfl rfl h46 ?_
     refine s_pass rfl rfl h46 ?_
     refine s_pass rfl rfl h46 ?_
     refine s_pass rfl rfl h46 ?_
     refine s_pass rfl rfl h46 ?_
     refine s_want rfl rfl h40 ?_
     refine s_val (v_pickT (v := .bool _) rfl h46 rfl) ?_
     refine s_val (v_pickT (v := .bool _) rfl h40 rfl) ?_
     refine s_val (v_assign (v := .bool _) rfl) ?_
     refine s_end ?_
     refine n_cut ⟨_, live10 rfl rfl rfl rfl rfl rfl (congrArg Value.bool (now_b htold hpk (of_decide_eq_true h40) (by have := of_decide_eq_true h46; have := hpw.1; omega))) rfl rfl rfl⟩ (fun _ hw => hw)
   have hkw := of_decide_eq_false h46
   obtain ⟨p0, hp0, _, _⟩ := hpw.get (k := k) (by omega)
   obtain ⟨bw0, ow0, hwa, hcw⟩ := hpw.some (k := k) (by omega)
   refine s_want rfl rfl h46 ?_
   refine s_val (v_field (fo := 40) (by kernel_rfl) rfl) ?_
   refine s_want rfl rfl h46 ?_
   refine s_val (v_load1 (v := .slice _ _ _) (by kernel_rfl) rfl (.there (.there (.there (.there (.app .here))))) (H.at_pays _)) ?_
   refine s_want rfl rfl h46 ?_
   refine s_val (v_move (v := .int .i64 _) rfl) ?_
   refine s_want rfl rfl h46 ?_
   refine s_val (v_idxS (size := 6) (k := .i64) (by kernel_rfl) (congrArg (fun a => Value.slice a was.pl was.pc) hwa) rfl ⟨by omega, by omega⟩) ?_
   refine s_want rfl rfl h46 ?_
   refine s_val (v_field (fo := 4) (by kernel_rfl) rfl) ?_
   refine s_want rfl rfl h46 ?_
   refine s_val (v_load1o (by kernel_rfl) rfl (hcw _ p0 hp0 4 _ rfl)) ?_
   refine s_want rfl rfl h46 ?_
   refine s_val (v_neq (k := .i64) rfl rfl) ?_
   refine s_want rfl rfl h40 ?_
   refine s_val (v_pickF (v := .bool _) rfl h46 rfl) ?_
   refine s_val (v_pickT (v := .bool _) rfl h40 rfl) ?_
   refine s_val (v_assign (v := .bool _) rfl) ?_
   refine s_end ?_
   refine n_cut ⟨_, live10 rfl rfl rfl rfl rfl rfl (congrArg Value.bool (now_c htold hpk (of_decide_eq_true h40) hp0)) rfl rfl rfl⟩ (fun _ hw => hw)
 rintro _ ⟨g, rfl⟩
 refine c_seq ?_
 refine d_seq (by kernel_rfl) (by kernel_rfl) (fun w hw => hw.drew) (by kernel_rfl) ?_
 refine q_val (v_move (v := .int .i64 _) rfl) ?_
 refine q_val (v_field (fo := 40) (by kernel_rfl) rfl) ?_
 refine q_val (v_load1 (v := .slice _ _ _) (by kernel_rfl) rfl (.there (.there (.there (.there (.app .here))))) (H.at_pays _)) ?_
 refine q_val (v_lenS (T := 39) (m := 6) (by kernel_rfl) rfl rfl) ?_
 refine q_val (v_lss (k := .i64) rfl rfl) ?_
 refine q_val (v_move (v := .bool _) rfl) ?_
 refine q_splitR (s := 61) rfl (fun h61 => ?_) (fun h61 => ?_)
 · refine q_pass rfl rfl h61 ?_
   refine q_pass rfl rfl h61 ?_
   refine q_pass rfl rfl h61 ?_
   refine q_pass rfl rfl h61 ?_
   refine q_pass rfl rfl h61 ?_
   refine q_pass rfl rfl h61 ?_
   refine q_pass rfl rfl h61 ?_
   refine q_val (v_pickF (v := .bool _) rfl h61 rfl) ?_
   refine q_val (v_move (v := .bool _) rfl) ?_
   refine q_pass (g := false) rfl rfl rfl ?_
   refine q_pass (g := false) rfl rfl rfl ?_
   refine q_pass (g := false) rfl rfl rfl ?_
   refine q_pass (g := false) rfl rfl rfl ?_
   refine q_pass (g := false) rfl rfl rfl ?_
   refine q_pass (g := false) rfl rfl rfl ?_
   refine q_pass (g := false) rfl rfl rfl ?_
   refine q_pass (g := false) rfl rfl rfl ?_
   refine q_pass (g := false) rfl rfl rfl ?_
   refine q_val (v_pickF (v := .bool _) rfl rfl rfl) ?_
   refine q_nil ?_
   refine c_condFh rfl rfl rfl ?_
   refine c_skip ?_
   refine n_then ?_
   refine r_seq (by kernel_rfl) ?_
   refine s_val (v_assign (v := .int .i64 _) rfl) ?_
   refine s_nil ?_
   refine c_seq ?_
   refine r_seq (by kernel_rfl) ?_
   refine s_val (v_field (fo := 2) (by kernel_rfl) rfl) ?_
   refine s_val (v_load1 (v := .slice _ _ _) (by kernel_rfl) rfl (.there (.there .here)) rfl) ?_
   refine s_val (v_lenS (T := 29) (m := 1) (by kernel_rfl) rfl rfl) ?_
   refine s_val (v_move (v := .int .i64 _) rfl) ?_
   refine s_nil ?_
   refine c_block ?_
   refine c_loop (σ := Nat) (fun (j : Nat) f => ∃ g, (j ≤ (doM s x).2.done.length) ∧ f = (upd (upd (upd (upd (upd (upd (upd (upd (upd (upd (upd (upd (upd (upd g 3 (.pointer (some ⟨bw, 0, none⟩))) 6 (.pointer (some ⟨b6, 0, none⟩))) 8 (.pointer (some ⟨b8, 0, none⟩))) 9 (I (nowTo (doM s x).2.done k))) 10 (I k)) 11 (.pointer (some ⟨b11, 0, none⟩))) 12 (.bool (decide ((k : Int) ∈ (doM s x).2.done)))) 13 (I (timesTo (doM s x).2.done k j))) 30 (.slice h17.pa h17.pl h17.pc)) 31 (I h17.pl)) 32 (I k)) 82 (.slice a1 (doM s x).2.done.length c1)) 83 (I (doM s x).2.done.length)) 84 (I j))) (fun (j : Nat) => Has w F17 ((b11, .cells p.cells 50) :: (b8, .cells h17.cells 41) :: (b6, .cells ((repC (doM s x).2.code (doM s x).2.n (.slice a1 (doM s x).2.done.length c1))) 31) :: (b5, .cells x.cells 23) :: (B ++ ((bw, .cells was.cells 41 (0, 0)) :: K)))) (fun (j : Nat) => (doM s x).2.done.length - j) 0 ⟨_, Nat.zero_le _, live14 rfl rfl rfl rfl rfl rfl rfl rfl rfl rfl rfl rfl rfl rfl⟩ (fun w hw => hw) ?_
   rintro j _ ⟨g, hjl, rfl⟩
   refine r_seq (by kernel_rfl) ?_
   refine s_val (v_lss (k := .i64) rfl rfl) ?_
   refine s_nil ?_
   refine c_seq ?_
   refine c_cond rfl rfl (fun h85 => ?_) (fun h85 => ?_)
   · have hj0 := of_decide_eq_true h85
     obtain ⟨bd, od, y, had, hyj, hfy⟩ := hid.get (j := j) (by omega)
     have htl := times_le (doM s x).2.done k j
     refine c_skip ?_
     refine n_then ?_
     refine c_seq ?_
     refine c_block ?_
     refine r_seq (by kernel_rfl) ?_
     refine s_val (v_idxS (size := 1) (k := .i64) (by kernel_rfl) (congrArg (fun a => Value.slice a (doM s x).2.done.length c1) had) rfl ⟨by omega, by omega⟩) ?_
     refine s_val (v_load1o (v := I y) (by kernel_rfl) rfl (by simpa using hF17 _ _ hfy)) ?_
     refine s_val (v_assign (v := .int .i64 _) rfl) ?_
     refine s_nil ?_
     refine r_seq (by kernel_rfl) ?_
     refine s_val (v_move (v := .int .i64 _) rfl) ?_
     refine s_val (v_move (v := .int .i64 _) rfl) ?_
     refine s_val (v_eql (k := .i64) rfl rfl) ?_
     refine s_nil ?_
     refine c_condR rfl rfl (fun h90 => ?_) (fun h90 => ?_)
     · refine c_skip ?_
       refine n_bnormal ?_
       refine n_then ?_
       refine r_list (by kernel_rfl) ?_
       refine s_val (v_add rfl rfl (by omega)) ?_
       refine s_val (v_move (v := .int .i64 _) rfl) ?_
       refine s_end ?_
       refine n_round (j + 1) ⟨_, (by omega), live14 rfl rfl rfl rfl rfl rfl rfl (congrArg (fun t : Nat => Value.int .i64 (t : Int)) (times_no hyj (of_decide_eq_false h90))) rfl rfl rfl rfl rfl rfl⟩ (fun _ hw => hw) (by omega)
     refine r_list (by kernel_rfl) ?_
     refine s_val (v_move (v := .int .i64 _) rfl) ?_
     refine s_val (v_add rfl rfl (by omega)) ?_
     refine s_val (v_assign (v := .int .i64 _) rfl) ?_
     refine s_end ?_
     refine n_bnormal ?_
     refine n_then ?_
     refine r_list (by kernel_rfl) ?_
     refine s_val (v_add rfl rfl (by omega)) ?_
     refine s_val (v_move (v := .int .i64 _) rfl) ?_
     refine s_end ?_
     refine n_round (j + 1) ⟨_, (by omega), live14 rfl rfl rfl rfl rfl rfl rfl (congrArg (Value.int .i64) (times_yes hyj (of_decide_eq_true h90))) rfl rfl rfl rfl rfl rfl⟩ (fun _ hw => hw) (by omega)
   refine c_exit ?_
   refine n_exit ?_
   refine n_exit ?_
   refine n_bhere ?_
   refine n_then ?_
   refine c_seq ?_
   have hti := times_all htold.once k (j := j) (by have := of_decide_eq_false h85; omega)
   refine r_seq (by kernel_rfl) ?_
   refine s_val (v_move (v := .bool _) rfl) ?_
   refine s_nil ?_
   refine c_condR rfl rfl (fun h94 => ?_) (fun h94 => ?_)
   · refine c_skip ?_
     refine n_then ?_
     refine r_seq (by kernel_rfl) ?_
     refine s_val (v_move (v := .bool _) rfl) ?_
     refine s_val (v_move (v := .int .i64 _) rfl) ?_
     refine s_val (v_eql (k := .i64) rfl rfl) ?_
     refine s_val (v_neqB (by kernel_rfl) rfl rfl) ?_
     refine s_val (v_move (v := .bool _) rfl) ?_
     refine s_want rfl rfl (congrArg not (told_eq hti)) ?_
     refine s_val (v_move (v := .int .i64 _) rfl) ?_
     refine s_want rfl rfl (congrArg not (told_eq hti)) ?_
     refine s_val (v_gtr (k := .i64) rfl rfl) ?_
     refine s_val (v_pickF (v := .bool _) rfl (congrArg not (told_eq hti)) rfl) ?_
     refine s_nil ?_
     refine c_condFh rfl rfl (decide_eq_false (by rw [hti]; split <;> decide)) ?_
     refine c_skip ?_
     refine n_bnormal ?_
     refine n_then ?_
     refine r_list (by kernel_rfl) ?_
     refine s_val (v_add rfl rfl (by omega)) ?_
     refine s_val (v_move (v := .int .i64 _) rfl) ?_
     refine s_end ?_
     refine n_round (k + 1) ⟨_, (by omega), live7 rfl rfl rfl (congrArg (fun t : Nat => Value.int .i64 (t : Int)) (now_no (of_decide_eq_false h94))) rfl rfl rfl⟩ (fun _ hw => hw.tail) (by omega)
   refine r_list (by kernel_rfl) ?_
   refine s_val (v_move (v := .int .i64 _) rfl) ?_
   refine s_val (v_add rfl rfl (by omega)) ?_
   refine s_val (v_assign (v := .int .i64 _) rfl) ?_
   refine s_end ?_
   refine n_then ?_
   refine r_seq (by kernel_rfl) ?_
   refine s_val (v_move (v := .bool _) rfl) ?_
   refine s_val (v_move (v := .int .i64 _) rfl) ?_
   refine s_val (v_eql (k := .i64) rfl rfl) ?_
   refine s_val (v_neqB (by kernel_rfl) rfl rfl) ?_
   refine s_val (v_move (v := .bool _) rfl) ?_
   refine s_want rfl rfl (congrArg not (told_eq hti)) ?_
   refine s_val (v_move (v := .int .i64 _) rfl) ?_
   refine s_want rfl rfl (congrArg not (told_eq hti)) ?_
   refine s_val (v_gtr (k := .i64) rfl rfl) ?_
   refine s_val (v_pickF (v := .bool _) rfl (congrArg not (told_eq hti)) rfl) ?_
   refine s_nil ?_
   refine c_condFh rfl rfl (decide_eq_false (by rw [hti]; split <;> decide)) ?_
   refine c_skip ?_
   refine n_bnormal ?_
   refine n_then ?_
   refine r_list (by kernel_rfl) ?_
   refine s_val (v_add rfl rfl (by omega)) ?_
   refine s_val (v_move (v := .int .i64 _) rfl) ?_
   refine s_end ?_
   refine n_round (k + 1) ⟨_, (by omega), live7 rfl rfl rfl (congrArg (Value.int .i64) (now_yes (of_decide_eq_true h94))) rfl rfl rfl⟩ (fun _ hw => hw.tail) (by omega)
 have hkw := of_decide_eq_true h61
 obtain ⟨p0, hp0, _, _⟩ := hpw.get (k := k) (by omega)
 obtain ⟨bw0, ow0, hwa, hcw⟩ := hpw.some (k := k) (by omega)
 refine q_want rfl rfl h61 ?_
 refine q_val (v_field (fo := 40) (by kernel_rfl) rfl) ?_
 refine q_want rfl rfl h61 ?_
 refine q_val (v_load1 (v := .slice _ _ _) (by kernel_rfl) rfl (.there (.there (.there (.there (.app .here))))) (H.at_pays _)) ?_
 refine q_want rfl rfl h61 ?_
 refine q_val (v_move (v := .int .i64 _) rfl) ?_
 refine q_want rfl rfl h61 ?_
 refine q_val (v_idxS (size := 6) (k := .i64) (by kernel_rfl) (congrArg (fun a => Value.slice a was.pl was.pc) hwa) rfl ⟨by omega, by omega⟩) ?_
 refine q_want rfl rfl h61 ?_
 refine q_val (v_field (fo := 4) (by kernel_rfl) rfl) ?_
 refine q_want rfl rfl h61 ?_
 refine q_val (v_load1o (by kernel_rfl) rfl (hcw _ p0 hp0 4 _ rfl)) ?_
 refine q_want rfl rfl h61 ?_
 refine q_val (v_neq (k := .i64) rfl rfl) ?_
 refine q_val (v_pickT (v := .bool _) rfl h61 rfl) ?_
 refine q_val (v_move (v := .bool _) rfl) ?_
 refine q_splitNR (s := 70) rfl (fun h70 => ?_) (fun h70 => ?_)
 · refine q_pass rfl rfl (congrArg not h70) ?_
   refine q_pass rfl rfl (congrArg not h70) ?_
   refine q_pass rfl rfl (congrArg not h70) ?_
   refine q_pass rfl rfl (congrArg not h70) ?_
   refine q_pass rfl rfl (congrArg not h70) ?_
   refine q_pass rfl rfl (congrArg not h70) ?_
   refine q_pass rfl rfl (congrArg not h70) ?_
   refine q_pass rfl rfl (congrArg not h70) ?_
   refine q_pass rfl rfl (congrArg not h70) ?_
   refine q_val (v_pickF (v := .bool _) rfl (congrArg not h70) rfl) ?_
   refine q_nil ?_
   refine c_condFh rfl rfl rfl ?_
   refine c_skip ?_
   refine n_then ?_
   refine r_seq (by kernel_rfl) ?_
   refine s_val (v_assign (v := .int .i64 _) rfl) ?_
   refine s_nil ?_
   refine c_seq ?_
   refine r_seq (by kernel_rfl) ?_
   refine s_val (v_field (fo := 2) (by kernel_rfl) rfl) ?_
   refine s_val (v_load1 (v := .slice _ _ _) (by kernel_rfl) rfl (.there (.there .here)) rfl) ?_
   refine s_val (v_lenS (T := 29) (m := 1) (by kernel_rfl) rfl rfl) ?_
   refine s_val (v_move (v := .int .i64 _) rfl) ?_
   refine s_nil ?_
   refine c_block ?_
   refine c_loop (σ := Nat) (fun (j : Nat) f => ∃ g, (j ≤ (doM s x).2.done.length) ∧ f = (upd (upd (upd (upd (upd (upd (upd (upd (upd (upd (upd (upd (upd (upd g 3 (.pointer (some ⟨bw, 0, none⟩))) 6 (.pointer (some ⟨b6, 0, none⟩))) 8 (.pointer (some ⟨b8, 0, none⟩))) 9 (I (nowTo (doM s x).2.done k))) 10 (I k)) 11 (.pointer (some ⟨b11, 0, none⟩))) 12 (.bool (decide ((k : Int) ∈ (doM s x).2.done)))) 13 (I (timesTo (doM s x).2.done k j))) 30 (.slice h17.pa h17.pl h17.pc)) 31 (I h17.pl)) 32 (I k)) 82 (.slice a1 (doM s x).2.done.length c1)) 83 (I (doM s x).2.done.length)) 84 (I j))) (fun (j : Nat) => Has w F17 ((b11, .cells p.cells 50) :: (b8, .cells h17.cells 41) :: (b6, .cells ((repC (doM s x).2.code (doM s x).2.n (.slice a1 (doM s x).2.done.length c1))) 31) :: (b5, .cells x.cells 23) :: (B ++ ((bw, .cells was.cells 41 (0, 0)) :: K)))) (fun (j : Nat) => (doM s x).2.done.length - j) 0 ⟨_, Nat.zero_le _, live14 rfl rfl rfl rfl rfl rfl rfl rfl rfl rfl rfl rfl rfl rfl⟩ (fun w hw => hw) ?_
   rintro j _ ⟨g, hjl, rfl⟩
   refine r_seq (by kernel_rfl) ?_
   refine s_val (v_lss (k := .i64) rfl rfl) ?_
   refine s_nil ?_
   refine c_seq ?_
   refine c_cond rfl rfl (fun h85 => ?_) (fun h85 => ?_)
   · have hj0 := of_decide_eq_true h85
     obtain ⟨bd, od, y, had, hyj, hfy⟩ := hid.get (j := j) (by omega)
     have htl := times_le (doM s x).2.done k j
     refine c_skip ?_
     refine n_then ?_
     refine c_seq ?_
     refine c_block ?_
     refine r_seq (by kernel_rfl) ?_
     refine s_val (v_idxS (size := 1) (k := .i64) (by kernel_rfl) (congrArg (fun a => Value.slice a (doM s x).2.done.length c1) had) rfl ⟨by omega, by omega⟩) ?_
     refine s_val (v_load1o (v := I y) (by kernel_rfl) rfl (by simpa using hF17 _ _ hfy)) ?_
     refine s_val (v_assign (v := .int .i64 _) rfl) ?_
     refine s_nil ?_
     refine r_seq (by kernel_rfl) ?_
     refine s_val (v_move (v := .int .i64 _) rfl) ?_
     refine s_val (v_move (v := .int .i64 _) rfl) ?_
     refine s_val (v_eql (k := .i64) rfl rfl) ?_
     refine s_nil ?_
     refine c_condR rfl rfl (fun h90 => ?_) (fun h90 => ?_)
     · refine c_skip ?_
       refine n_bnormal ?_
       refine n_then ?_
       refine r_list (by kernel_rfl) ?_
       refine s_val (v_add rfl rfl (by omega)) ?_
       refine s_val (v_move (v := .int .i64 _) rfl) ?_
       refine s_end ?_
       refine n_round (j + 1) ⟨_, (by omega), live14 rfl rfl rfl rfl rfl rfl rfl (congrArg (fun t : Nat => Value.int .i64 (t : Int)) (times_no hyj (of_decide_eq_false h90))) rfl rfl rfl rfl rfl rfl⟩ (fun _ hw => hw) (by omega)
     refine r_list (by kernel_rfl) ?_
     refine s_val (v_move (v := .int .i64 _) rfl) ?_
     refine s_val (v_add rfl rfl (by omega)) ?_
     refine s_val (v_assign (v := .int .i64 _) rfl) ?_
     refine s_end ?_
     refine n_bnormal ?_
     refine n_then ?_
     refine r_list (by kernel_rfl) ?_
     refine s_val (v_add rfl rfl (by omega)) ?_
     refine s_val (v_move (v := .int .i64 _) rfl) ?_
     refine s_end ?_
     refine n_round (j + 1) ⟨_, (by omega), live14 rfl rfl rfl rfl rfl rfl rfl (congrArg (Value.int .i64) (times_yes hyj (of_decide_eq_true h90))) rfl rfl rfl rfl rfl rfl⟩ (fun _ hw => hw) (by omega)
   refine c_exit ?_
   refine n_exit ?_
   refine n_exit ?_
   refine n_bhere ?_
   refine n_then ?_
   refine c_seq ?_
   have hti := times_all htold.once k (j := j) (by have := of_decide_eq_false h85; omega)
   refine r_seq (by kernel_rfl) ?_
   refine s_val (v_move (v := .bool _) rfl) ?_
   refine s_nil ?_
   refine c_condR rfl rfl (fun h94 => ?_) (fun h94 => ?_)
   · refine c_skip ?_
     refine n_then ?_
     refine r_seq (by kernel_rfl) ?_
     refine s_val (v_move (v := .bool _) rfl) ?_
     refine s_val (v_move (v := .int .i64 _) rfl) ?_
     refine s_val (v_eql (k := .i64) rfl rfl) ?_
     refine s_val (v_neqB (by kernel_rfl) rfl rfl) ?_
     refine s_val (v_move (v := .bool _) rfl) ?_
     refine s_want rfl rfl (congrArg not (told_eq hti)) ?_
     refine s_val (v_move (v := .int .i64 _) rfl) ?_
     refine s_want rfl rfl (congrArg not (told_eq hti)) ?_
     refine s_val (v_gtr (k := .i64) rfl rfl) ?_
     refine s_val (v_pickF (v := .bool _) rfl (congrArg not (told_eq hti)) rfl) ?_
     refine s_nil ?_
     refine c_condFh rfl rfl (decide_eq_false (by rw [hti]; split <;> decide)) ?_
     refine c_skip ?_
     refine n_bnormal ?_
     refine n_then ?_
     refine r_list (by kernel_rfl) ?_
     refine s_val (v_add rfl rfl (by omega)) ?_
     refine s_val (v_move (v := .int .i64 _) rfl) ?_
     refine s_end ?_
     refine n_round (k + 1) ⟨_, (by omega), live7 rfl rfl rfl (congrArg (fun t : Nat => Value.int .i64 (t : Int)) (now_no (of_decide_eq_false h94))) rfl rfl rfl⟩ (fun _ hw => hw.tail) (by omega)
   refine r_list (by kernel_rfl) ?_
   refine s_val (v_move (v := .int .i64 _) rfl) ?_
   refine s_val (v_add rfl rfl (by omega)) ?_
   refine s_val (v_assign (v := .int .i64 _) rfl) ?_
   refine s_end ?_
   refine n_then ?_
   refine r_seq (by kernel_rfl) ?_
   refine s_val (v_move (v := .bool _) rfl) ?_
   refine s_val (v_move (v := .int .i64 _) rfl) ?_
   refine s_val (v_eql (k := .i64) rfl rfl) ?_
   refine s_val (v_neqB (by kernel_rfl) rfl rfl) ?_
   refine s_val (v_move (v := .bool _) rfl) ?_
   refine s_want rfl rfl (congrArg not (told_eq hti)) ?_
   refine s_val (v_move (v := .int .i64 _) rfl) ?_
   refine s_want rfl rfl (congrArg not (told_eq hti)) ?_
   refine s_val (v_gtr (k := .i64) rfl rfl) ?_
   refine s_val (v_pickF (v := .bool _) rfl (congrArg not (told_eq hti)) rfl) ?_
   refine s_nil ?_
   refine c_condFh rfl rfl (decide_eq_false (by rw [hti]; split <;> decide)) ?_
   refine c_skip ?_
   refine n_bnormal ?_
   refine n_then ?_
   refine r_list (by kernel_rfl) ?_
   refine s_val (v_add rfl rfl (by omega)) ?_
   refine s_val (v_move (v := .int .i64 _) rfl) ?_
   refine s_end ?_
   refine n_round (k + 1) ⟨_, (by omega), live7 rfl rfl rfl (congrArg (Value.int .i64) (now_yes (of_decide_eq_true h94))) rfl rfl rfl⟩ (fun _ hw => hw.tail) (by omega)
 refine q_want rfl rfl (congrArg not h70) ?_
 refine q_val (v_field (fo := 40) (by kernel_rfl) rfl) ?_
 refine q_want rfl rfl (congrArg not h70) ?_
 refine q_val (v_load1 (v := .slice _ _ _) (by kernel_rfl) rfl (.there (.there (.there (.there (.app .here))))) (H.at_pays _)) ?_
 refine q_want rfl rfl (congrArg not h70) ?_
 refine q_val (v_move (v := .int .i64 _) rfl) ?_
 refine q_want rfl rfl (congrArg not h70) ?_
 refine q_val (v_idxS (size := 6) (k := .i64) (by kernel_rfl) (congrArg (fun a => Value.slice a was.pl was.pc) hwa) rfl ⟨by omega, by omega⟩) ?_
 refine q_want rfl rfl (congrArg not h70) ?_
 refine q_val (v_field (fo := 4) (by kernel_rfl) rfl) ?_
 refine q_want rfl rfl (congrArg not h70) ?_
 refine q_val (v_load1o (by kernel_rfl) rfl (hcw _ p0 hp0 4 _ rfl)) ?_
 refine q_want rfl rfl (congrArg not h70) ?_
 refine q_val (v_field (fo := 4) (by kernel_rfl) rfl) ?_
 refine q_want rfl rfl (congrArg not h70) ?_
 refine q_val (v_load1 (v := .int .i64 _) (by kernel_rfl) rfl .here rfl) ?_
 refine q_want rfl rfl (congrArg not h70) ?_
 refine q_val (v_neq (k := .i64) rfl rfl) ?_
 refine q_val (v_pickT (v := .bool _) rfl (congrArg not h70) rfl) ?_
 refine q_nil ?_
 refine c_condFh rfl rfl (congrArg not (decide_eq_true (told_stays htold hpk hp0 (of_decide_eq_false h70)))) ?_
 refine c_skip ?_
 refine n_then ?_
 refine r_seq (by kernel_rfl) ?_
 refine s_val (v_assign (v := .int .i64 _) rfl) ?_
 refine s_nil ?_
 refine c_seq ?_
 refine r_seq (by kernel_rfl) ?_
 refine s_val (v_field (fo := 2) (by kernel_rfl) rfl) ?_
 refine s_val (v_load1 (v := .slice _ _ _) (by kernel_rfl) rfl (.there (.there .here)) rfl) ?_
 refine s_val (v_lenS (T := 29) (m := 1) (by kernel_rfl) rfl rfl) ?_
 refine s_val (v_move (v := .int .i64 _) rfl) ?_
 refine s_nil ?_
 refine c_block ?_
 refine c_loop (σ := Nat) (fun (j : Nat) f => ∃ g, (j ≤ (doM s x).2.done.length) ∧ f = (upd (upd (upd (upd (upd (upd (upd (upd (upd (upd (upd (upd (upd (upd g 3 (.pointer (some ⟨bw, 0, none⟩))) 6 (.pointer (some ⟨b6, 0, none⟩))) 8 (.pointer (some ⟨b8, 0, none⟩))) 9 (I (nowTo (doM s x).2.done k))) 10 (I k)) 11 (.pointer (some ⟨b11, 0, none⟩))) 12 (.bool (decide ((k : Int) ∈ (doM s x).2.done)))) 13 (I (timesTo (doM s x).2.done k j))) 30 (.slice h17.pa h17.pl h17.pc)) 31 (I h17.pl)) 32 (I k)) 82 (.slice a1 (doM s x).2.done.length c1)) 83 (I (doM s x).2.done.length)) 84 (I j))) (fun (j : Nat) => Has w F17 ((b11, .cells p.cells 50) :: (b8, .cells h17.cells 41) :: (b6, .cells ((repC (doM s x).2.code (doM s x).2.n (.slice a1 (doM s x).2.done.length c1))) 31) :: (b5, .cells x.cells 23) :: (B ++ ((bw, .cells was.cells 41 (0, 0)) :: K)))) (fun (j : Nat) => (doM s x).2.done.length - j) 0 ⟨_, Nat.zero_le _, live14 rfl rfl rfl rfl rfl rfl rfl rfl rfl rfl rfl rfl rfl rfl⟩ (fun w hw => hw) ?_
 rintro j _ ⟨g, hjl, rfl⟩
 refine r_seq (by kernel_rfl) ?_
 refine s_val (v_lss (k := .i64) rfl rfl) ?_
 refine s_nil ?_
 refine c_seq ?_
 refine c_cond rfl rfl (fun h85 => ?_) (fun h85 => ?_)
 · have hj0 := of_decide_eq_true h85
   obtain ⟨bd, od, y, had, hyj, hfy⟩ := hid.get (j := j) (by omega)
   have htl := times_le (doM s x).2.done k j
   refine c_skip ?_
   refine n_then ?_
   refine c_seq ?_
   refine c_block ?_
   refine r_seq (by kernel_rfl) ?_
   refine s_val (v_idxS (size := 1) (k := .i64) (by kernel_rfl) (congrArg (fun a => Value.slice a (doM s x).2.done.length c1) had) rfl ⟨by omega, by omega⟩) ?_
   refine s_val (v_load1o (v := I y) (by kernel_rfl) rfl (by simpa using hF17 _ _ hfy)) ?_
   refine s_val (v_assign (v := .int .i64 _) rfl) ?_
   refine s_nil ?_
   refine r_seq (by kernel_rfl) ?_
   refine s_val (v_move (v := .int .i64 _) rfl) ?_
   refine s_val (v_move (v := .int .i64 _) rfl) ?_
   refine s_val (v_eql (k := .i64) rfl rfl) ?_
   refine s_nil ?_
   refine c_condR rfl rfl (fun h90 => ?_) (fun h90 => ?_)
   · refine c_skip ?_
     refine n_bnormal ?_
     refine n_then ?_
     refine r_list (by kernel_rfl) ?_
     refine s_val (v_add rfl rfl (by omega)) ?_
     refine s_val (v_move (v := .int .i64 _) rfl) ?_
     refine s_end ?_
     refine n_round (j + 1) ⟨_, (by omega), live14 rfl rfl rfl rfl rfl rfl rfl (congrArg (fun t : Nat => Value.int .i64 (t : Int)) (times_no hyj (of_decide_eq_false h90))) rfl rfl rfl rfl rfl rfl⟩ (fun _ hw => hw) (by omega)
   refine r_list (by kernel_rfl) ?_
   refine s_val (v_move (v := .int .i64 _) rfl) ?_
   refine s_val (v_add rfl rfl (by omega)) ?_
   refine s_val (v_assign (v := .int .i64 _) rfl) ?_
   refine s_end ?_
   refine n_bnormal ?_
   refine n_then ?_
   refine r_list (by kernel_rfl) ?_
   refine s_val (v_add rfl rfl (by omega)) ?_
   refine s_val (v_move (v := .int .i64 _) rfl) ?_
   refine s_end ?_
   refine n_round (j + 1) ⟨_, (by omega), live14 rfl rfl rfl rfl rfl rfl rfl (congrArg (Value.int .i64) (times_yes hyj (of_decide_eq_true h90))) rfl rfl rfl rfl rfl rfl⟩ (fun _ hw => hw) (by omega)
 refine c_exit ?_
 refine n_exit ?_
 refine n_exit ?_
 refine n_bhere ?_
 refine n_then ?_
 refine c_seq ?_
 have hti := times_all htold.once k (j := j) (by have := of_decide_eq_false h85; omega)
 refine r_seq (by kernel_rfl) ?_
 refine s_val (v_move (v := .bool _) rfl) ?_
 refine s_nil ?_
 refine c_condR rfl rfl (fun h94 => ?_) (fun h94 => ?_)
 · refine c_skip ?_
   refine n_then ?_
   refine r_seq (by kernel_rfl) ?_
   refine s_val (v_move (v := .bool _) rfl) ?_
   refine s_val (v_move (v := .int .i64 _) rfl) ?_
   refine s_val (v_eql (k := .i64) rfl rfl) ?_
   refine s_val (v_neqB (by kernel_rfl) rfl rfl) ?_
   refine s_val (v_move (v := .bool _) rfl) ?_
   refine s_want rfl rfl (congrArg not (told_eq hti)) ?_
   refine s_val (v_move (v := .int .i64 _) rfl) ?_
   refine s_want rfl rfl (congrArg not (told_eq hti)) ?_
   refine s_val (v_gtr (k := .i64) rfl rfl) ?_
   refine s_val (v_pickF (v := .bool _) rfl (congrArg not (told_eq hti)) rfl) ?_
   refine s_nil ?_
   refine c_condFh rfl rfl (decide_eq_false (by rw [hti]; split <;> decide)) ?_
   refine c_skip ?_
   refine n_bnormal ?_
   refine n_then ?_
   refine r_list (by kernel_rfl) ?_
   refine s_val (v_add rfl rfl (by omega)) ?_
   refine s_val (v_move (v := .int .i64 _) rfl) ?_
   refine s_end ?_
   refine n_round (k + 1) ⟨_, (by omega), live7 rfl rfl rfl (congrArg (fun t : Nat => Value.int .i64 (t : Int)) (now_no (of_decide_eq_false h94))) rfl rfl rfl⟩ (fun _ hw => hw.tail) (by omega)
 refine r_list (by kernel_rfl) ?_
 refine s_val (v_move (v := .int .i64 _) rfl) ?_
 refine s_val (v_add rfl rfl (by omega)) ?_
 refine s_val (v_assign (v := .int .i64 _) rfl) ?_
 refine s_end ?_
 refine n_then ?_
 refine r_seq (by kernel_rfl) ?_
 refine s_val (v_move (v := .bool _) rfl) ?_
 refine s_val (v_move (v := .int .i64 _) rfl) ?_
 refine s_val (v_eql (k := .i64) rfl rfl) ?_
 refine s_val (v_neqB (by kernel_rfl) rfl rfl) ?_
 refine s_val (v_move (v := .bool _) rfl) ?_
 refine s_want rfl rfl (congrArg not (told_eq hti)) ?_
 refine s_val (v_move (v := .int .i64 _) rfl) ?_
 refine s_want rfl rfl (congrArg not (told_eq hti)) ?_
 refine s_val (v_gtr (k := .i64) rfl rfl) ?_
 refine s_val (v_pickF (v := .bool _) rfl (congrArg not (told_eq hti)) rfl) ?_
 refine s_nil ?_
 refine c_condFh rfl rfl (decide_eq_false (by rw [hti]; split <;> decide)) ?_
 refine c_skip ?_
 refine n_bnormal ?_
 refine n_then ?_
 refine r_list (by kernel_rfl) ?_
 refine s_val (v_add rfl rfl (by omega)) ?_
 refine s_val (v_move (v := .int .i64 _) rfl) ?_
 refine s_end ?_
 refine n_round (k + 1) ⟨_, (by omega), live7 rfl rfl rfl (congrArg (Value.int .i64) (now_yes (of_decide_eq_true h94))) rfl rfl rfl⟩ (fun _ hw => hw.tail) (by omega)
theorem law_TopStates (bk : BankOk) (a0 : Option Addr) (c0 : Nat) (xs : List ActS) (w : World) (hx : ActsAt (At w) a0 xs) (hlx : xs.length ≤ 9223372036854775807) : Gives Try.prog 8 [.slice a0 xs.length c0] w (.bool true) := by
 refine gives_of Try.func8 rfl Try.ntmps8 (by simp) ?_
 refine r_seq (by kernel_rfl) ?_
 refine s_val (v_assign (v := .bool _) rfl) ?_
 refine s_nil ?_
 refine r_seq (by kernel_rfl) ?_
 refine s_alloc (z := .agg zeroH.cells) (by kernel_rfl) (fun b3 => ?_)
 refine s_nil ?_
 refine r_seq (by kernel_rfl) ?_
 refine s_val (v_move (v := .slice _ _ _) rfl) ?_
 refine s_val (v_makeFunc (vs := [.pointer (some ⟨b3, 0, none⟩)]) rfl) ?_
 refine s_callW (B := [(b3, .cells zeroH.cells 41 (0, 0))]) (by kernel_rfl) (g_play bk (fun n : H => [(b3, Obj.cells n.cells 41 (0, 0))]) (fun _ s n F => PaysIn F n.pa n.pl s.ps) a0 c0 xs 31 [.pointer (some ⟨b3, 0, none⟩)] (At w) zeroH hx hlx ⟨rfl, .inl rfl⟩ (fun h hm => h.mono hm) (by kernel_rfl) (by
   rintro F1 i s n x b B E a1 c1 hF hxk hi hJ hg hs hr ho
   exact fun w0 K w hw => (look_TopStates bk F1 s x b B E a1 c1 b3 n hg hr ho hJ w0 K w hw).mono fun e w' ⟨v, B', F', h1, h2, h3, h4, h, h5, h6⟩ => ⟨v, B', F', h1, h2, h3, h4, h, h6, h5⟩)) (fun F9 v9 B90 hF9 hR9 => ?_)
 obtain ⟨b9, B9, c9, rfl, rfl, hr9, hg9, hJ9⟩ := hR9
 refine s_val (v_move (v := .tuple _) rfl) ?_
 refine s_val (v_extract rfl rfl) ?_
 refine s_val (v_extract rfl rfl) ?_
 refine s_val (v_assign (v := .pointer _) rfl) ?_
 refine s_val (v_assign (v := .bool _) rfl) ?_
 refine s_nil ?_
 refine r_seq (by kernel_rfl) ?_
 refine s_val (v_move (v := .bool _) rfl) ?_
 refine s_val (v_assign (v := .bool _) rfl) ?_
 refine s_nil ?_
 refine c_ret ?_
 refine n_done rfl (by decide) (Eq.trans (b := .bool _) rfl (congrArg Value.bool ?_))
 rfl
end Go.Proofs.Ytmkboljfbmlebab
