/- What the laws of this place stand on, part 13. Each part names its own conditions in what it states. -/
import Derived.Test.YtmkboljfbmlebabQ12
namespace Go.Proofs.Ytmkboljfbmlebab
open Go.RowKit
set_option linter.unusedSimpArgs false
set_option linter.unusedVariables false
set_option maxRecDepth 100000
attribute [local irreducible] cC sC nC rC qw
set_option maxHeartbeats 1000000 in
theorem g_Run (a0 : Option Addr) (c0 : Nat) (xs : List ActS) (w : World) (hx : ActsAt (At w) a0 xs) (hlx : xs.length ≤ 9223372036854775807) : GivesF Try.prog 38 [.slice a0 xs.length c0] w (RunG xs) := by
 refine givesF_of Try.func38 rfl Try.ntmps38 (by simp) ?_
 refine r_seq (by kernel_rfl) ?_
 refine s_val (v_assign (v := .slice _ _ _) rfl) ?_
 refine s_val (v_assign (v := .int .i64 _) rfl) ?_
 refine s_nil ?_
 refine c_seq ?_
 refine r_seq (by kernel_rfl) ?_
 refine s_val (v_move (v := .slice _ _ _) rfl) ?_
 refine s_val (v_lenS (T := 44) (m := 5) (by kernel_rfl) rfl rfl) ?_
 refine s_val (v_gtr (k := .i64) rfl rfl) ?_
 refine s_nil ?_
 refine c_cond rfl rfl (fun h10 => ?_) (fun h10 => ?_)
 · refine r_seq (by kernel_rfl) ?_
   refine s_val (v_assign (v := .slice _ _ _) rfl) ?_
   refine s_val (v_assign (v := .int .i64 _) rfl) ?_
   refine s_nil ?_
   refine c_ret ?_
   refine n_ret ?_
   refine n_doneTF rfl (by decide) (by decide) (fun w1 hw => ?_)
   exact runG_long (by have := of_decide_eq_true h10; omega)
 have hl200 : xs.length ≤ 200 := by have := of_decide_eq_false h10; omega
 refine c_skip ?_
 refine n_then ?_
 refine r_seq (by kernel_rfl) ?_
 refine s_callE (by kernel_rfl) (fun w hw => g_NewBank w) (fun v11 E11 hR11 => ?_)
 obtain ⟨b, rfl, rfl⟩ := hR11
 refine s_val (v_assign (v := .pointer _) rfl) ?_
 refine s_nil ?_
 refine r_seq (by kernel_rfl) ?_
 refine s_val (v_assign (v := .slice _ _ _) rfl) ?_
 refine s_nil ?_
 refine c_seq ?_
 refine r_seq (by kernel_rfl) ?_
 refine s_val (v_move (v := .slice _ _ _) rfl) ?_
 refine s_val (v_lenS (T := 44) (m := 5) (by kernel_rfl) rfl rfl) ?_
 refine s_val (v_move (v := .int .i64 _) rfl) ?_
 refine s_nil ?_
 refine c_block ?_
 refine c_loop (σ := RnG) (fun (t : RnG) f => ∃ g, (RnOk 31 67 b w xs t) ∧ f = (upd (upd (upd (upd (upd g 4 (.pointer (some ⟨b, 0, none⟩))) 5 (t.v)) 12 (.slice a0 xs.length c0)) 13 (I xs.length)) 14 (I t.k))) (fun (t : RnG) => Has w t.F (t.E ++ (t.B ++ []))) (fun (t : RnG) => xs.length - t.k) ⟨0, At w, newB, [(b, .cells (bankD newM [] true 0 false 0) 67 (0, 0))], .slice none 0 0, [], []⟩ ⟨_, rnOk_start, live5 rfl rfl rfl rfl rfl⟩ (fun w hw => hw) ?_
 rintro t _ ⟨g, ho, rfl⟩
 refine r_seq (by kernel_rfl) ?_
 refine s_val (v_lss (k := .i64) rfl rfl) ?_
 refine s_nil ?_
 refine c_seq ?_
 refine c_condR rfl rfl (fun h15 => ?_) (fun h15 => ?_)
 · have hkl : t.k = xs.length := by have := of_decide_eq_false h15; have := ho.k; omega
   refine c_exit ?_
   refine n_exit ?_
   refine n_exit ?_
   refine n_bhere ?_
   refine n_then ?_
   refine r_seq (by kernel_rfl) ?_
   refine s_val (v_move (v := _) rfl) ?_
   refine s_val (v_assign (v := _) rfl) ?_
   refine s_val (v_assign (v := .int .i64 _) rfl) ?_
   refine s_nil ?_
   refine c_ret ?_
   refine n_doneTF rfl (by decide) (by decide) (fun w1 hw => ?_)
   exact ho.done hkl hl200 hw
 have hk0 := of_decide_eq_true h15
 obtain ⟨bx, ox, x, hax, hxk, hxc⟩ := hx.get (j := t.k) (by omega)
 refine c_skip ?_
 refine n_then ?_
 refine c_seq ?_
 refine c_block ?_
 refine r_seq (by kernel_rfl) ?_
 refine s_val (v_idxS (size := 5) (k := .i64) (by kernel_rfl) (congrArg (fun a => Value.slice a xs.length c0) hax) rfl ⟨by omega, by omega⟩) ?_
 refine s_val (v_loadNo (cs := x.cells) (m := 5) (by kernel_rfl) rfl rfl (fun k v hv => ho.more _ _ (hxc k v hv))) ?_
 refine s_alloc (z := zeroOf Try.prog 23) (by kernel_rfl) (fun b7 => ?_)
 refine s_storeA (m := 5) (by kernel_rfl) rfl rfl .here (by kernel_rfl) rfl (ActS.all1 _) ?_
 refine s_nil ?_
 refine r_list (by kernel_rfl) ?_
 refine s_val (v_move (v := _) rfl) ?_
 refine s_val (v_move (v := .pointer _) rfl) ?_
 refine s_val (v_loadA (m := 5) (by kernel_rfl) rfl .here rfl) ?_
 refine s_weak (fun w1 hw => hw.perm (List.Perm.cons _ (perm_front (A := t.E) (E := t.B)))) ?_
 refine s_weak (fun w1 hw => hw.perm List.perm_middle.symm) ?_
 refine s_callW (by kernel_rfl) (g_DoR t.F b t.B t.s x ho.good ho.rep) (fun F21 v21 B21 hF21 hR21 => ?_)
 obtain ⟨vd, E21, B22, rfl, rfl, hi21, hr21⟩ := hR21
 obtain ⟨a21, c21, rfl, _⟩ := id hi21
 refine s_weak (fun w1 hw => has_assoc hw) ?_
 refine s_forgetY (fun F22 hF22 hk22 => ?_)
 refine s_weak (fun w1 hw => hw.perm (List.Perm.append_left B22 List.perm_middle.symm)) ?_
 refine s_weak (fun w1 hw => hw.perm (perm_front (A := B22) (E := t.E))) ?_
 refine s_build1 (v := .agg _) (e := 31) (m := 3) (by_ := 40) (by kernel_rfl) rfl rfl rfl (fill_one rfl) (fun b22 => ?_)
 refine s_push (e := 31) (m := 3) (by_ := 40) (by kernel_rfl) rfl rfl rfl rfl rfl ho.list rfl rep_all (by have := ho.k; omega) (fun v23 E23 hE23 => ?_)
 refine s_val (v_assign (v := _) rfl) ?_
 refine s_end ?_
 refine n_bnormal ?_
 refine n_then ?_
 refine r_list (by kernel_rfl) ?_
 refine s_val (v_add rfl rfl (by have := ho.k; omega)) ?_
 refine s_val (v_move (v := .int .i64 _) rfl) ?_
 refine s_end ?_
 refine n_round (s := t) ⟨t.k + 1, F22, (doM t.s x).1, B22, v23, E23, _⟩ ⟨_, ho.step hxk (fun a v h => hF22 a v (hF21 a v h)) (hi21.known hk22) (hr21.mono hF22) hE23, live5 rfl rfl rfl rfl rfl⟩ (fun _ hw => hw.sub (List.Sublist.append (List.Sublist.refl _) (List.Sublist.append (List.Sublist.refl _) (List.Sublist.cons _ (List.Sublist.refl _))))) (by have := ho.k; dsimp only; omega)
theorem theRun (w : World) (a : Option Addr) (c : Nat) (l : List ActS) (hx : ActsAt (At w) a l) (hl : l.length ≤ 200) : GivesF Try.prog 38 [.slice a l.length c] w (RunF l) :=
 ⟨(g_Run a c l w hx (by omega)).out.mono fun e w' ⟨v, h1, h2, h3⟩ => ⟨v, h1, h2, runG_F h3 hl⟩⟩
end Go.Proofs.Ytmkboljfbmlebab
namespace Go.Proofs.Ytmkboljfbmlebab
open Go.RowKit
set_option linter.unusedSimpArgs false
set_option linter.unusedVariables false
section
variable {Hh : Type} {enc : TypeId × Value → Hh} {P : Program} {w : World} {base : Nat} {spare : Nat → Bool} {held : Bool}
theorem open_act {T : TypeId} (hB : flatB P 4 T 5 = true) {fuel : Nat} {cs : List Value} {x : DataW Hh × List MemPlace} (hx : DataW.trod enc P w base spare held fuel T cs = some x) : ∃ a : ActS, cs.toArray = a.cells := by
 obtain ⟨hl, hI⟩ := read_flat 4 T 5 hB _ _ _ hx
 match cs, hl with
 | [c0, c1, c2, c3, c4], _ =>
   refine ⟨⟨intV c0, intV c1, intV c2, intV c3, intV c4⟩, ?_⟩
   have e0 := intV_of (hI c0 (by simp))
   have e1 := intV_of (hI c1 (by simp))
   have e2 := intV_of (hI c2 (by simp))
   have e3 := intV_of (hI c3 (by simp))
   have e4 := intV_of (hI c4 (by simp))
   simp only [ActS.cells]
   rw [e0, e1, e2, e3, e4]
theorem acts_of_slice {e : TypeId} {a : Addr} {len m : Nat} (hm : len ≤ m) (hc : P.cellsOf e = 5) (hf : flatB P 4 e 5 = true) {n : Nat} {D : Nat → DataW Hh} {Pl : Nat → List MemPlace}
   (h : ∀ i, i < m → ∃ cs', w.cells? base (a.add (i * P.cellsOf e)) (P.cellsOf e) = some cs' ∧ DataW.trod enc P w base spare held n e cs' = some (D i, Pl i)) : ∃ xs : List ActS, xs.length = len ∧ ActsAt (At w) (some a) xs := by
 have h' : ∀ i, i < len → ∃ p : ActS, ∀ (k : Nat) (v : Value), p.cells[k]? = some v → w.cell? (a.add (i * 5 + k)) = some v := by
   intro i hi
   obtain ⟨cs', h1, h2⟩ := h i (by omega)
   rw [hc] at h1
   obtain ⟨hl, hI⟩ := read_flat 4 e 5 hf _ _ _ h2
   obtain ⟨_, _, hcell⟩ := World.cells?_some h1
   match cs', hl with
   | [c0, c1, c2, c3, c4], _ =>
     refine ⟨⟨intV c0, intV c1, intV c2, intV c3, intV c4⟩, fun k v hv => ?_⟩
     have e0 := intV_of (hI c0 (by simp))
     have e1 := intV_of (hI c1 (by simp))
     have e2 := intV_of (hI c2 (by simp))
     have e3 := intV_of (hI c3 (by simp))
     have e4 := intV_of (hI c4 (by simp))
     simp only [ActS.cells, e0, e1, e2, e3, e4] at hv
     have hk : k < 5 := by
       rcases Nat.lt_or_ge k 5 with h | h
       · exact h
       · rw [Array.getElem?_eq_none (by simpa using h)] at hv; cases hv
     have := hcell k hk
     rw [Deep.add_add] at this
     rw [this]
     simpa using hv
 by_cases h0 : len = 0
 · exact ⟨[], by rw [h0]; rfl, .inl rfl⟩
 have hsp : a.spot = none := by
   obtain ⟨p, hp⟩ := h' 0 (by omega)
   have := hp 0 (I p.kind) rfl
   simpa [Addr.add] using World.cell?_spot this
 obtain ⟨b, o, sp⟩ := a
 simp at hsp
 subst hsp
 have hch : ∀ i, ∃ p : ActS, i < len → ∀ (k : Nat) (v : Value), p.cells[k]? = some v → w.cell? ⟨b, o + i * 5 + k, none⟩ = some v := by
   intro i
   by_cases hi : i < len
   · obtain ⟨p, hp⟩ := h' i hi
     refine ⟨p, fun _ k v hv => ?_⟩
     have := hp k v hv
     rw [add_off] at this
     rw [Nat.add_assoc]; exact this
   · exact ⟨⟨0, 0, 0, 0, 0⟩, fun hh => absurd hh hi⟩
 refine ⟨(List.range len).map fun i => Classical.choose (hch i), by simp, .inr ⟨b, o, rfl, fun j p hj k v hv => ?_⟩⟩
 have hjl : j < len := by
   have := (List.getElem?_eq_some_iff.1 hj).1
   simpa using this
 have : p = Classical.choose (hch j) := by
   rw [List.getElem?_map, List.getElem?_range hjl] at hj
   simpa using hj.symm
 subst this
 exact Classical.choose_spec (hch j) hjl k v hv
def actsB (P : Program) (T : TypeId) : Bool := match P.underlying T with
 | some (.slice e) => Nat.beq (P.cellsOf e) 5 && flatB P 4 e 5
 | _ => false
theorem open_acts {T : TypeId} (hB : actsB P T = true) {fuel : Nat} {cs : List Value} {x : DataW Hh × List MemPlace} (hx : DataW.trod enc P w base spare held fuel T cs = some x) :
   ∃ (a : Option Addr) (c : Nat) (xs : List ActS), cs = [.slice a xs.length c] ∧ ActsAt (At w) a xs ∧ xs.length ≤ c ∧ c ≤ maxLen := by
 unfold actsB at hB
 split at hB
 · rename_i e hue
   simp only [Bool.and_eq_true] at hB
   obtain ⟨he5, hfe⟩ := hB
   have he5 := Nat.eq_of_beq_eq_true he5
   rcases Deep.open_slice hue hx with ⟨hcs, _⟩ | ⟨a, len, cap, mm, n, D, Pl, hcs, _, hlc, hcm, hmm, _, hel⟩
   · exact ⟨none, 0, [], hcs, .inl rfl, Nat.le_refl _, Nat.zero_le _⟩
   · obtain ⟨xs, hl, hxs⟩ := acts_of_slice (len := len) (by rw [hmm]; split <;> omega) he5 hfe hel
     subst hl
     exact ⟨some a, cap, xs, hcs, hxs, hlc, hcm⟩
 · cases hB
end
end Go.Proofs.Ytmkboljfbmlebab
