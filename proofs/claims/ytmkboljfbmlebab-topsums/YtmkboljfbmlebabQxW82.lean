/- The law TopSums. Condition: a bank that keeps its contracts. -/
import Derived.Test.YtmkboljfbmlebabQ13
import Derived.Test.YtmkboljfbmlebabQxW80
namespace Go.Proofs.Ytmkboljfbmlebab
open Go.RowKit
set_option linter.unusedSimpArgs false
set_option linter.unusedVariables false
set_option maxRecDepth 100000
attribute [local irreducible] cC sC nC rC qw
set_option maxHeartbeats 1000000 in
theorem look_TopSums (bk : BankOk) (F : Addr → Value → Prop) (s : BankS) (r : RepS) (x : ActS) (b : Nat) (B E : List (Nat × Obj)) (a1 : Option Addr) (l1 c1 : Nat) (hg : BGood s) (hr : bk.Rep F b B s) : GivesW Try.prog 25 [.pointer (some ⟨b, 0, none⟩), .agg x.cells, repOf r (.slice a1 l1 c1)] F (E ++ B) (fun F2 v B' => v = .bool true ∧ B' = B) := by
 refine givesW_of Try.func25 rfl Try.ntmps25 (by simp) (fun w K => ?_)
 refine c_weak (fun w1 hw => show Has w F (E ++ (B ++ K)) w1 from (by rw [← List.append_assoc]; exact hw)) ?_
 refine r_seq (by kernel_rfl) ?_
 refine s_box (v := .agg _) rfl (fun b4 => ?_)
 refine s_box (v := .agg _) rfl (fun b5 => ?_)
 refine s_val (v_assign (v := .bool _) rfl) ?_
 refine s_nil ?_
 refine r_seq (by kernel_rfl) ?_
 refine s_val (v_move (v := .pointer _) rfl) ?_
 refine s_callF (by kernel_rfl) (fun w hw => bk.house w b B _ hg (bk.mono hr hw.at) (lies_of hw (fun _ hq => (List.mem_cons_of_mem _ (List.mem_cons_of_mem _ (List.mem_append_right _ (List.mem_append_left _ hq))))))) (fun F12 v12 E12 hF12 hK12 hR12 => ?_)
 obtain ⟨h12, rfl, hc12, ho12⟩ := hR12
 have hp12 := ho12.known hK12
 have hlc12 := ho12.2.1
 have hl2412 : h12.pl ≤ 24 := by have := (bgood_inv hg).1.len; have := hp12.1; omega
 refine s_alloc (z := .agg zeroH.cells) (by kernel_rfl) (fun b7 => ?_)
 refine s_storeA (m := 42) (by kernel_rfl) rfl rfl .here (H.size _) (H.size _) (H.all1 _) ?_
 refine s_nil ?_
 refine r_seq (by kernel_rfl) ?_
 refine s_alloc (z := .agg (matA fun _ _ => 0)) (by kernel_rfl) (fun b8 => ?_)
 refine s_nil ?_
 refine c_seq ?_
 refine r_seq (by kernel_rfl) ?_
 refine s_val (v_field (fo := 40) (by kernel_rfl) rfl) ?_
 refine s_val (v_load1 (v := .slice _ _ _) (by kernel_rfl) rfl (.there .here) (H.at_pays _)) ?_
 refine s_val (v_lenS (T := 39) (m := 6) (by kernel_rfl) rfl rfl) ?_
 refine s_val (v_move (v := .int .i64 _) rfl) ?_
 refine s_nil ?_
 refine c_block ?_
 refine c_loop (σ := Nat) (fun (k : Nat) f => ∃ g, (k ≤ h12.pl) ∧ f = (upd (upd (upd (upd (upd g 7 (.pointer (some ⟨b7, 0, none⟩))) 8 (.pointer (some ⟨b8, 0, none⟩))) 14 (.slice h12.pa h12.pl h12.pc)) 15 (I h12.pl)) 16 (I k))) (fun (k : Nat) => Has w F12 ((b8, .cells (matA (sentTo s.ps k)) 38) :: (b7, .cells h12.cells 41) :: (b5, .cells ((repC r.code r.n (.slice a1 l1 c1))) 31) :: (b4, .cells x.cells 23) :: (E ++ (B ++ K)))) (fun (k : Nat) => h12.pl - k) 0 ⟨_, Nat.zero_le _, live5 rfl rfl rfl rfl rfl⟩ (fun w1 hw => by rw [sentTo_zero]; exact hw) ?_
 rintro k _ ⟨g, hkl, rfl⟩
 refine r_seq (by kernel_rfl) ?_
 refine s_val (v_lss (k := .i64) rfl rfl) ?_
 refine s_nil ?_
 refine c_seq ?_
 refine c_condR rfl rfl (fun h17 => ?_) (fun h17 => ?_)
 · refine c_exit ?_
   refine n_exit ?_
   refine n_exit ?_
   refine n_bhere ?_
   refine n_then ?_
   refine r_seq (by kernel_rfl) ?_
   refine s_val (v_loadA (m := 16) (by kernel_rfl) rfl .here (matA_size _)) ?_
   refine s_val (v_field (fo := 8) (by kernel_rfl) rfl) ?_
   refine s_val (v_loadN (m := 16) (cs' := matA _) (by kernel_rfl) rfl (.there .here) (matA_size _) (H.ex_sent _)) ?_
   refine s_val (v_eqFlat (n := 16) _ _ (by kernel_rfl) rfl rfl (matA_list _) (matA_list _) rfl rfl) ?_
   refine s_val (v_assign (v := .bool _) rfl) ?_
   refine s_nil ?_
   refine c_ret ?_
   exact n_doneW (B' := B) rfl (by decide) hF12 (fun w1 hw => hw.sub (List.Sublist.cons _ (List.Sublist.cons _ (List.Sublist.cons _ (List.Sublist.cons _ (List.Sublist.trans (List.Sublist.refl _) (List.sublist_append_right _ _))))))) ⟨congrArg Value.bool (decide_eq_true (sums_all hg hc12 (by have := of_decide_eq_false h17; have := hp12.1; omega))), rfl⟩
 have hk0 := of_decide_eq_true h17
 obtain ⟨p, hpk, hd, ht⟩ := hp12.get (k := k) (by omega)
 obtain ⟨bp, op, hpa, hc⟩ := hp12.some (k := k) (by omega)
 refine c_skip ?_
 refine n_then ?_
 refine c_seq ?_
 refine c_block ?_
 refine r_seq (by kernel_rfl) ?_
 refine s_val (v_idxS (size := 6) (k := .i64) (by kernel_rfl) (congrArg (fun a => Value.slice a h12.pl h12.pc) hpa) rfl ⟨by omega, by omega⟩) ?_
 refine s_val (v_loadNo (cs := p.cells) (m := 6) (by kernel_rfl) rfl rfl (hc k p hpk)) ?_
 refine s_alloc (z := zeroOf Try.prog 50) (by kernel_rfl) (fun b10 => ?_)
 refine s_storeA (m := 6) (by kernel_rfl) rfl rfl .here (by kernel_rfl) rfl (PayS.all1 _) ?_
 refine s_nil ?_
 refine r_seq (by kernel_rfl) ?_
 refine s_val (v_field (fo := 4) (by kernel_rfl) rfl) ?_
 refine s_val (v_load1 (v := .int .i64 _) (by kernel_rfl) rfl .here rfl) ?_
 refine s_val (v_eql (k := .i64) rfl rfl) ?_
 refine s_nil ?_
 refine c_condR rfl rfl (fun h22 => ?_) (fun h22 => ?_)
 · refine c_skip ?_
   refine n_bnormal ?_
   refine n_then ?_
   refine r_list (by kernel_rfl) ?_
   refine s_val (v_add rfl rfl (by omega)) ?_
   refine s_val (v_move (v := .int .i64 _) rfl) ?_
   refine s_end ?_
   refine n_round (k + 1) ⟨_, (by omega), live5 rfl rfl rfl rfl rfl⟩ (fun _ hw => by rw [← sentTo_no hpk (of_decide_eq_false h22)]; exact hw.tail) (by omega)
 obtain ⟨hb1, hb2, hb3, hb4⟩ := pay_banks hg hpk
 have hrg := sentTo_range hg k p.src p.dst
 refine t_list (k := 12) (by kernel_rfl) (by kernel_rfl) (fun w hw => hw.drew) (by kernel_rfl) ?_
 refine q_val (v_field (fo := 0) (by kernel_rfl) rfl) ?_
 refine q_val (v_load1 (v := .int .i64 _) (by kernel_rfl) rfl .here rfl) ?_
 refine q_val (v_field (fo := 1) (by kernel_rfl) rfl) ?_
 refine q_val (v_load1 (v := .int .i64 _) (by kernel_rfl) rfl .here rfl) ?_
 refine q_val (v_idxA (len := 4) (size := 4) (k := .i64) (by kernel_rfl) rfl rfl hb1) ?_
 refine q_val (v_idxA (len := 4) (size := 1) (k := .i64) (by kernel_rfl) rfl rfl hb2) ?_
 refine q_val (v_load1 (v := .int .i64 _) (by kernel_rfl) rfl (.there .here) (matA_at2 _ hb1 hb2)) ?_
 refine q_val (v_field (fo := 2) (by kernel_rfl) rfl) ?_
 refine q_val (v_load1 (v := .int .i64 _) (by kernel_rfl) rfl .here rfl) ?_
 refine q_val (v_add rfl rfl (by omega)) ?_
 refine q_val (v_idxA (len := 4) (size := 4) (k := .i64) (by kernel_rfl) rfl rfl hb1) ?_
 refine q_val (v_idxA (len := 4) (size := 1) (k := .i64) (by kernel_rfl) rfl rfl hb2) ?_
 refine q_tail ?_
 refine s_store1 (v := .int .i64 _) (by kernel_rfl) rfl rfl (.there .here) (matA_set2 _ hb1 hb2) rfl ?_
 refine s_end ?_
 refine n_bnormal ?_
 refine n_then ?_
 refine r_list (by kernel_rfl) ?_
 refine s_val (v_add rfl rfl (by omega)) ?_
 refine s_val (v_move (v := .int .i64 _) rfl) ?_
 refine s_end ?_
 refine n_round (k + 1) ⟨_, (by omega), live5 rfl rfl rfl rfl rfl⟩ (fun _ hw => by rw [← sentTo_yes hpk (of_decide_eq_true h22)]; exact hw.tail) (by omega)
theorem law_TopSums (bk : BankOk) (a0 : Option Addr) (c0 : Nat) (xs : List ActS) (w : World) (hx : ActsAt (At w) a0 xs) (hlx : xs.length ≤ 9223372036854775807) : Gives Try.prog 5 [.slice a0 xs.length c0] w (.bool true) := by
 refine gives_of Try.func5 rfl Try.ntmps5 (by simp) ?_
 refine r_seq (by kernel_rfl) ?_
 refine s_val (v_assign (v := .bool _) rfl) ?_
 refine s_nil ?_
 refine r_seq (by kernel_rfl) ?_
 refine s_val (v_move (v := .slice _ _ _) rfl) ?_
 refine s_callW (B := []) (by kernel_rfl) (g_play bk (fun _ : Unit => []) (fun _ _ _ _ => True) a0 c0 xs 25 [] (At w) () hx hlx trivial (fun _ _ => trivial) (by kernel_rfl) (looks_plain bk xs 25 (At w) (fun F1 s r x b B E a1 l1 c1 hg hr => look_TopSums bk F1 s r x b B E a1 l1 c1 hg hr))) (fun F7 v7 B70 hF7 hR7 => ?_)
 obtain ⟨b7, B7, c7, rfl, rfl, hr7, hg7, hJ7⟩ := hR7
 refine s_val (v_move (v := .tuple _) rfl) ?_
 refine s_val (v_extract rfl rfl) ?_
 refine s_val (v_extract rfl rfl) ?_
 refine s_val (v_assign (v := .pointer _) rfl) ?_
 refine s_val (v_assign (v := .bool _) rfl) ?_
 refine s_nil ?_
 refine r_seq (by kernel_rfl) ?_
 refine s_val (v_move (v := .bool _) rfl) ?_
 refine s_val (v_assign (v := .bool _) rfl) ?_
 refine s_nil ?_
 refine c_ret ?_
 refine n_done rfl (by decide) (Eq.trans (b := .bool _) rfl (congrArg Value.bool ?_))
 rfl
end Go.Proofs.Ytmkboljfbmlebab
