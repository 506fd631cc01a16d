/- The law TopRefused. Condition: a bank that keeps its contracts. -/
import Derived.Test.YtmkboljfbmlebabQ13
import Derived.Test.YtmkboljfbmlebabQxW86
namespace Go.Proofs.Ytmkboljfbmlebab
open Go.RowKit
set_option linter.unusedSimpArgs false
set_option linter.unusedVariables false
set_option maxRecDepth 100000
attribute [local irreducible] cC sC nC rC qw
set_option maxHeartbeats 1000000 in
theorem law_TopRefused (bk : BankOk) (a0 : Option Addr) (c0 : Nat) (xs : List ActS) (a : ActS) (w : World) (hx : ActsAt (At w) a0 xs) (hlx : xs.length ≤ 9223372036854775807) : Gives Try.prog 12 [.slice a0 xs.length c0, .agg a.cells] w (.bool true) := by
 refine gives_of Try.func12 rfl Try.ntmps12 (by simp) ?_
 refine r_seq (by kernel_rfl) ?_
 refine s_box (v := .agg _) rfl (fun b3 => ?_)
 refine s_val (v_assign (v := .bool _) rfl) ?_
 refine s_nil ?_
 refine r_seq (by kernel_rfl) ?_
 refine s_val (v_move (v := .slice _ _ _) rfl) ?_
 refine s_callW (B := []) (by kernel_rfl) (g_play bk (fun _ : Unit => []) (fun _ _ _ _ => True) a0 c0 xs 35 [] (At w) () hx hlx trivial (fun _ _ => trivial) (by kernel_rfl) (looks_plain bk xs 35 (At w) (fun F1 s r x b B E a1 l1 c1 hg hr => look_quiet bk F1 s r x b B E a1 l1 c1 hg hr))) (fun F12 v12 B120 hF12 hR12 => ?_)
 obtain ⟨b12, B12, _, rfl, rfl, hr12, hg12, _⟩ := hR12
 refine s_weak (fun w1 hw => show Has w F12 (B12 ++ _) w1 from (by rw [List.append_nil] at hw; exact hw)) ?_
 refine s_val (v_move (v := .tuple _) rfl) ?_
 refine s_val (v_extract rfl rfl) ?_
 refine s_val (v_extract rfl rfl) ?_
 refine s_val (v_assign (v := .pointer _) rfl) ?_
 refine s_val (v_assign (v := .bool _) rfl) ?_
 refine s_nil ?_
 refine r_seq (by kernel_rfl) ?_
 refine s_val (v_move (v := .slice _ _ _) rfl) ?_
 refine s_callW (B := []) (by kernel_rfl) (g_play bk (fun _ : Unit => []) (fun _ _ _ _ => True) a0 c0 xs 35 [] F12 () (hx.mono hF12) hlx trivial (fun _ _ => trivial) (by kernel_rfl) (looks_plain bk xs 35 F12 (fun F1 s r x b B E a1 l1 c1 hg hr => look_quiet bk F1 s r x b B E a1 l1 c1 hg hr))) (fun F17 v17 B170 hF17 hR17 => ?_)
 obtain ⟨b17, B17, _, rfl, rfl, hr17, hg17, _⟩ := hR17
 refine s_weak (fun w1 hw => show Has w F17 (B17 ++ _) w1 from (by rw [List.append_nil] at hw; exact hw)) ?_
 refine s_val (v_move (v := .tuple _) rfl) ?_
 refine s_val (v_extract rfl rfl) ?_
 refine s_val (v_extract rfl rfl) ?_
 refine s_val (v_assign (v := .pointer _) rfl) ?_
 refine s_val (v_assign (v := .bool _) rfl) ?_
 refine s_nil ?_
 refine c_seq ?_
 refine r_seq (by kernel_rfl) ?_
 refine s_val (v_move (v := .bool _) rfl) ?_
 refine s_val (v_not rfl) ?_
 refine s_val (v_move (v := .bool _) rfl) ?_
 refine s_want rfl rfl (congrArg not rfl) ?_
 refine s_val (v_move (v := .bool _) rfl) ?_
 refine s_want rfl rfl (congrArg not rfl) ?_
 refine s_val (v_not rfl) ?_
 refine s_val (v_pickF (v := .bool _) rfl (congrArg not rfl) rfl) ?_
 refine s_nil ?_
 refine c_condFh rfl rfl (congrArg not rfl) ?_
 refine c_skip ?_
 refine n_then ?_
 refine r_seq (by kernel_rfl) ?_
 refine s_val (v_move (v := .pointer _) rfl) ?_
 refine s_val (v_loadA (m := 5) (by kernel_rfl) rfl (.app (.app .here)) rfl) ?_
 refine s_weak (fun w1 hw => hw.perm (perm_front (A := B17) (E := B12))) ?_
 refine s_do bk hg12 (bk.mono hr12 hF17) rfl rfl (fun F28 v28 E28 B28 hF28 hi28 hr28 => ?_)
 obtain ⟨a28, c28, rfl, hl28, ho28⟩ := hi28
 refine s_alloc (z := .agg (repC 0 0 (.slice none 0 0))) (by kernel_rfl) (fun b9 => ?_)
 refine s_storeA (m := 3) (by kernel_rfl) rfl rfl .here rfl rfl rep_all ?_
 refine s_nil ?_
 refine r_seq (by kernel_rfl) ?_
 refine s_val (v_field (fo := 0) (by kernel_rfl) rfl) ?_
 refine s_val (v_load1 (v := .int .i64 _) (by kernel_rfl) rfl .here rfl) ?_
 refine s_val (v_eql (k := .i64) rfl rfl) ?_
 refine s_val (v_move (v := .bool _) rfl) ?_
 refine s_split (s := 32) rfl (fun h32 => ?_) (fun h32 => ?_)
 · refine s_pass rfl rfl h32 ?_
   refine s_pass rfl rfl h32 ?_
   refine s_pass rfl rfl h32 ?_
   refine s_pass rfl rfl h32 ?_
   refine s_passU rfl rfl ?_
   refine s_passU rfl rfl ?_
   refine s_passU rfl rfl ?_
   refine s_passU rfl rfl ?_
   refine s_pass rfl rfl h32 ?_
   refine s_pass rfl rfl h32 ?_
   refine s_passU rfl rfl ?_
   refine s_passU rfl rfl ?_
   refine s_passU rfl rfl ?_
   refine s_passU rfl rfl ?_
   refine s_passU rfl rfl ?_
   refine s_pass rfl rfl h32 ?_
   refine s_pass rfl rfl h32 ?_
   refine s_passU rfl rfl ?_
   refine s_passU rfl rfl ?_
   refine s_passU rfl rfl ?_
   refine s_passU rfl rfl ?_
   refine s_passU rfl rfl ?_
   refine s_passU rfl rfl ?_
   refine s_passU rfl rfl ?_
   refine s_passU rfl rfl ?_
   refine s_pass rfl rfl h32 ?_
   refine s_val (v_pickT (v := .bool _) rfl h32 rfl) ?_
   refine s_val (v_assign (v := .bool _) rfl) ?_
   refine s_nil ?_
   refine c_ret ?_
   refine n_done rfl (by decide) (Eq.trans (b := .bool _) rfl (congrArg Value.bool ?_))
   rfl
 have hrf := refused_same hg12 (of_decide_eq_false h32)
 refine s_want rfl rfl h32 ?_
 refine s_val (v_field (fo := 1) (by kernel_rfl) rfl) ?_
 refine s_want rfl rfl h32 ?_
 refine s_val (v_load1 (v := .int .i64 _) (by kernel_rfl) rfl .here rfl) ?_
 refine s_want rfl rfl h32 ?_
 refine s_val (v_eql (k := .i64) rfl rfl) ?_
 refine s_want rfl rfl h32 ?_
 refine s_val (v_move (v := .bool _) rfl) ?_
 refine s_want rfl rfl (decide_eq_true hrf.2.2.1) ?_
 refine s_val (v_field (fo := 2) (by kernel_rfl) rfl) ?_
 refine s_want rfl rfl (decide_eq_true hrf.2.2.1) ?_
 refine s_val (v_load1 (v := .slice _ _ _) (by kernel_rfl) rfl .here rfl) ?_
 refine s_want rfl rfl (decide_eq_true hrf.2.2.1) ?_
 refine s_val (v_lenS (T := 29) (m := 1) (by kernel_rfl) rfl rfl) ?_
 refine s_want rfl rfl (decide_eq_true hrf.2.2.1) ?_
 refine s_val (v_eql (k := .i64) rfl rfl) ?_
 refine s_want rfl rfl h32 ?_
 refine s_val (v_pickT (v := .bool _) rfl (decide_eq_true hrf.2.2.1) rfl) ?_
 refine s_want rfl rfl h32 ?_
 refine s_val (v_move (v := .bool _) rfl) ?_
 refine s_want rfl rfl (decide_eq_true (by rw [hrf.2.2.2.1]; rfl)) ?_
 refine s_val (v_move (v := .pointer _) rfl) ?_
 refine s_want rfl rfl (decide_eq_true (by rw [hrf.2.2.2.1]; rfl)) ?_
 refine s_callF (by kernel_rfl) (fun w hw => bk.house w b12 B28 _ (hg12.act a) (bk.mono hr28 hw.at) (lies_of hw (fun _ hq => (List.mem_cons_of_mem _ (List.mem_append_right _ (List.mem_append_left _ hq)))))) (fun F44 v44 E44 hF44 hK44 hR44 => ?_)
 obtain ⟨h44, rfl, hc44, ho44⟩ := hR44
 have hp44 := ho44.known hK44
 have hlc44 := ho44.2.1
 have hl2444 : h44.pl ≤ 24 := by have := (bgood_inv (hg12.act a)).1.len; have := hp44.1; omega
 refine s_want rfl rfl (decide_eq_true (by rw [hrf.2.2.2.1]; rfl)) ?_
 refine s_val (v_move (v := .pointer _) rfl) ?_
 refine s_want rfl rfl (decide_eq_true (by rw [hrf.2.2.2.1]; rfl)) ?_
 refine s_callF (by kernel_rfl) (fun w hw => bk.house w b17 B17 _ hg17 (bk.mono (bk.mono (bk.mono hr17 hF28) hF44) hw.at) (lies_of hw (fun _ hq => (List.mem_cons_of_mem _ (List.mem_append_right _ (List.mem_append_right _ (List.mem_append_left _ hq))))))) (fun F46 v46 E46 hF46 hK46 hR46 => ?_)
 obtain ⟨h46, rfl, hc46, ho46⟩ := hR46
 have hp46 := ho46.known hK46
 have hlc46 := ho46.2.1
 have hl2446 : h46.pl ≤ 24 := by have := (bgood_inv hg17).1.len; have := hp46.1; omega
 refine s_want rfl rfl (decide_eq_true (by rw [hrf.2.2.2.1]; rfl)) ?_
 refine s_call (by kernel_rfl) (fun w hw => (by have hq := hp44; rw [hrf.2.1] at hq; exact gt_sameHouse h44 (playM newB (xs.take 80)).ps h46 (playM newB (xs.take 80)).ps w ((hq.mono hF46).at hw) (hp46.at hw) (by omega))) ?_
 refine s_want rfl rfl h32 ?_
 refine s_val (v_pickT (v := .bool _) rfl (decide_eq_true (by rw [hrf.2.2.2.1]; rfl)) rfl) ?_
 refine s_want rfl rfl h32 ?_
 refine s_val (v_move (v := .bool _) rfl) ?_
 refine s_want rfl rfl (same_core (hc44.trans (hrf.1.trans hc46.symm)) (hp44.1.symm.trans ((congrArg List.length hrf.2.1).trans hp46.1))) ?_
 refine s_val (v_field (fo := 0) (by kernel_rfl) rfl) ?_
 refine s_want rfl rfl (same_core (hc44.trans (hrf.1.trans hc46.symm)) (hp44.1.symm.trans ((congrArg List.length hrf.2.1).trans hp46.1))) ?_
 refine s_val (v_load1 (v := .int .i64 _) (by kernel_rfl) rfl .here rfl) ?_
 refine s_want rfl rfl (same_core (hc44.trans (hrf.1.trans hc46.symm)) (hp44.1.symm.trans ((congrArg List.length hrf.2.1).trans hp46.1))) ?_
 refine s_val (v_eql (k := .i64) rfl rfl) ?_
 refine s_want rfl rfl (same_core (hc44.trans (hrf.1.trans hc46.symm)) (hp44.1.symm.trans ((congrArg List.length hrf.2.1).trans hp46.1))) ?_
 refine s_val (v_move (v := .bool _) rfl) ?_
 refine s_split (s := 53) rfl (fun h53 => ?_) (fun h53 => ?_)
 · refine s_pass rfl rfl h53 ?_
   refine s_pass rfl rfl h53 ?_
   refine s_pass rfl rfl h53 ?_
   refine s_want rfl rfl (same_core (hc44.trans (hrf.1.trans hc46.symm)) (hp44.1.symm.trans ((congrArg List.length hrf.2.1).trans hp46.1))) ?_
   refine s_val (v_pickT (v := .bool _) rfl h53 rfl) ?_
   refine s_want rfl rfl h32 ?_
   refine s_val (v_pickT (v := .bool _) rfl (same_core (hc44.trans (hrf.1.trans hc46.symm)) (hp44.1.symm.trans ((congrArg List.length hrf.2.1).trans hp46.1))) rfl) ?_
   refine s_val (v_pickF (v := .bool _) rfl h32 rfl) ?_
   refine s_val (v_assign (v := .bool _) rfl) ?_
   refine s_nil ?_
   refine c_ret ?_
   refine n_done rfl (by decide) (Eq.trans (b := .bool _) rfl (congrArg Value.bool ?_))
   rfl
 refine s_want rfl rfl h53 ?_
 refine s_val (v_move (v := .pointer _) rfl) ?_
 refine s_want rfl rfl h53 ?_
 refine s_val (v_move (v := .pointer _) rfl) ?_
 refine s_want rfl rfl h53 ?_
 refine s_call (by kernel_rfl) (fun w hw => gt_same bk b12 b17 B28 B17 _ _ w (hg12.act a) hg17 (bk.mono (bk.mono (bk.mono hr28 hF44) hF46) hw.at) (bk.mono (bk.mono (bk.mono (bk.mono hr17 hF28) hF44) hF46) hw.at) (lies_of hw (fun _ hq => (List.mem_cons_of_mem _ (List.mem_append_right _ (List.mem_append_left _ hq))))) (lies_of hw (fun _ hq => (List.mem_cons_of_mem _ (List.mem_append_right _ (List.mem_append_right _ (List.mem_append_left _ hq)))))) ⟨hrf.1, hrf.2.1, (hrf.2.2.2.2 (of_decide_eq_false h53)).1, (hrf.2.2.2.2 (of_decide_eq_false h53)).2⟩) ?_
 refine s_want rfl rfl (same_core (hc44.trans (hrf.1.trans hc46.symm)) (hp44.1.symm.trans ((congrArg List.length hrf.2.1).trans hp46.1))) ?_
 refine s_val (v_pickF (v := .bool _) rfl h53 rfl) ?_
 refine s_want rfl rfl h32 ?_
 refine s_val (v_pickT (v := .bool _) rfl (same_core (hc44.trans (hrf.1.trans hc46.symm)) (hp44.1.symm.trans ((congrArg List.length hrf.2.1).trans hp46.1))) rfl) ?_
 refine s_val (v_pickF (v := .bool _) rfl h32 rfl) ?_
 refine s_val (v_assign (v := .bool _) rfl) ?_
 refine s_nil ?_
 refine c_ret ?_
 refine n_done rfl (by decide) (Eq.trans (b := .bool _) rfl (congrArg Value.bool ?_))
 rfl
end Go.Proofs.Ytmkboljfbmlebab
