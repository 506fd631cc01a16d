/- A region that draws its order, whose first operations only read or call quietly and whose last ones write, in a forced order. No condition. -/
import Derived.Test.YtmkboljfbmlebaaK3
import Derived.StillTail
namespace Go.Proofs.Ytmkboljfbmlebaa
open Go.RowKit
set_option linter.unusedSimpArgs false
set_option linter.unusedVariables false

section
variable {P : Program} {ops : Array Oper} {md : Region.Mode} {C : World → Prop}

/-- whatever order the first n operations come up in, L holds behind them -/
def qHead (P : Program) (md : Region.Mode) (ops : Array Oper) (C : World → Prop) (n : Nat) (L : Array Bool → Act → Prop) : Nat → Array Bool → Act → Prop
  | 0, s, a => L s a
  | m + 1, s, a => Region.ready md ops s ≠ [] ∧ ∀ i ∈ Region.ready md ops s, i < n ∧ qOp P ops C i (qHead P md ops C n L m (s.setIfInBounds i true)) a

theorem wpAny_of_qHead {n g : Nat} {L : Array Bool → Act → Prop} {Q : Exit → Act → World → Prop} (hL : ∀ s a w, C w → L s a → wpAny P md ops Q g s a w) :
    ∀ (m : Nat) (s : Array Bool) (a : Act) (w : World), C w → qHead P md ops C n L m s a → wpAny P md ops Q (m + g) s a w
  | 0, s, a, w, hw, h => by rw [Nat.zero_add]; exact hL s a w hw h
  | m + 1, s, a, w, hw, h => by
    rw [show m + 1 + g = (m + g) + 1 by omega]
    exact ⟨fun h0 => absurd h0 h.1, fun i hi => wpOp_of_qOp hw (fun a' w' hw' h' => wpAny_of_qHead hL m _ a' w' hw' h') (h.2 i hi).2⟩

theorem qHead_take {n i : Nat} {oi : Oper} {v : Value} {L : Array Bool → Act → Prop} (hi : ops[i]? = some oi) (hsel : ∀ (j : Nat) (o : Oper) cs b, ops[j]? = some o → o.op ≠ .select cs b)
    (hs : Region.sinkB md ops n = true) (hc : Region.chainB md ops n = true) (hn : n < ops.size) (hin : i < n)
    (hfin : ∀ s a, L s a → ∀ j ∈ Region.ready md ops s, n ≤ j) (m : Nat) :
    ∀ (s : Array Bool) (a : Act), HeadInv md ops n s →
      (∀ j oj, ops[j]? = some oj → j ≠ i → s.getD j true = false → (∀ e ∈ oj.after, Region.binds md e = true → e.on ≠ i) → oi.apart ops oj = true) →
      i ∈ Region.ready md ops s → YieldsIn P ops C oi v a →
      qHead P md ops C n L m (s.setIfInBounds i true) (a.put oi.dst v) → qHead P md ops C n L (m + 1) s a := by
  induction m with
  | zero =>
    intro s a inv _ hr hy hk
    have hun := (mem_ready.1 hr).1
    refine ⟨fun h => (by rw [h] at hr; cases hr), fun j hj => ?_⟩
    have hjn : j < n := Nat.lt_of_not_le fun h => tail_waits hs hc hn inv _ i rfl hin hun j h hj
    refine ⟨hjn, ?_⟩
    by_cases hji : j = i
    · subst hji; exact hy.qOp hi hk
    · have := hfin _ _ hk j (ready_mono hj hji)
      omega
  | succ m ih =>
    intro s a inv hfree hr hy hk
    have hun := (mem_ready.1 hr).1
    refine ⟨fun h => (by rw [h] at hr; cases hr), fun j hj => ?_⟩
    have hjn : j < n := Nat.lt_of_not_le fun h => tail_waits hs hc hn inv _ i rfl hin hun j h hj
    refine ⟨hjn, ?_⟩
    by_cases hji : j = i
    · subst hji; exact hy.qOp hi hk
    · obtain ⟨hjun, oj, hoj, hall⟩ := mem_ready.1 hj
      have hnot : ∀ e ∈ oj.after, Region.binds md e = true → e.on ≠ i := fun e he hb heq => by
        have := hall e he hb
        rw [heq, getD_both hun] at this
        cases this
      have h2 := qOp_put hoj (hfree j oj hoj hji hjun hnot) (fun cs b => hsel i oi cs b hi) (fun cs b => hsel j oj cs b hoj) hy (hk.2 j (ready_mono hj hji)).2
      refine qOp_mono (fun a' h3 => ih (s.setIfInBounds j true) a' (inv.set hj hjn) (fun k ok hk' hki hun' hno => ?_) (ready_mono hr (Ne.symm hji)) h3.1 ?_) h2
      · refine hfree k ok hk' hki ?_ hno
        by_cases hjk : j = k
        · subst hjk; exact hjun
        · rwa [getD_set_ne true hjk] at hun'
      · rw [Array.setIfInBounds_comm _ _ hji]
        exact h3.2

theorem qHead_lex {n g : Nat} {Lq : Act → Prop} (hsel : Region.noSelect ops = true) (hs : Region.sinkB md ops n = true) (hc : Region.chainB md ops n = true) (hn : n < ops.size) :
    ∀ (l : List Oper) (k : Nat) (s : Array Bool) (a : Act), (∀ j, j < l.length → l[j]? = ops[k + j]?) → k + l.length = n → HeadInv md ops n s →
    Region.lexHead md ops g l.length k s = true → wpQuiet P ops C Lq l a →
    qHead P md ops C n (fun s' a' => Region.seqB md ops g n s' = true ∧ Lq a') l.length s a
  | [], k, s, a, _, hk, _, hB, h => by
    have : k = n := by simpa using hk
    subst this
    exact ⟨by simpa [Region.lexHead] using hB, h⟩
  | o :: l, k, s, a, hl, hk, inv, hB, h => by
    have h0 : ops[k]? = some o := by simpa using (hl 0 (by simp)).symm
    simp only [List.length_cons, Region.lexHead, Bool.and_eq_true] at hB
    obtain ⟨⟨hr, hf⟩, hB'⟩ := hB
    simp only [List.length_cons] at hk
    have hkn : k < n := by omega
    have hr' : k ∈ Region.ready md ops s := by simpa using hr
    obtain ⟨v, hy, hK⟩ := yieldsIn_of_qOp (K := wpQuiet P ops C Lq l) h0 (by unfold qOp; simp only [h0]; exact h)
    refine qHead_take h0 (Region.noSelect_spec hsel) hs hc hn hkn (fun s' a' hL => seqB_ready hL.1) l.length s a inv (Region.free_spec h0 hf) hr' hy ?_
    exact qHead_lex hsel hs hc hn l (k + 1) _ _ (fun j hj => by
      have := hl (j + 1) (by simp; omega)
      simpa [Nat.add_assoc, Nat.add_comm 1 j] using this) (by omega) (inv.set hr' hkn) hB' hK

theorem wp_region_quiet_tail {id : Nat} {Q : Exit → Act → World → Prop} {a : Act} {w : World} {l : List Oper} (n : Nat) (hm : P.follows .mixedOrders = true) (hB : Region.lexTailB .any l.toArray n = true) (hC : C { w with drawn := w.drawn + 1 })
    (h : wpQuiet P l.toArray C (fun a' => ∀ w', C w' → wpList P l.toArray Q (l.drop n) a' w') (l.take n) a) : (Code.region id l.toArray true).wp P Q a w := by
  simp only [Region.lexTailB, Bool.and_eq_true, decide_eq_true_eq] at hB
  obtain ⟨⟨⟨⟨hsel, hn⟩, hs⟩, hc⟩, hlex⟩ := hB
  have hn' : n < l.length := by simpa using hn
  have e1 : (l.take n).length = n := by simp; omega
  have e2 : (l.drop n).length = l.toArray.size - n := by simp
  have inv0 : HeadInv .any l.toArray n (Array.replicate l.toArray.size false) :=
    ⟨by simp, fun j oj _ hl => (by rw [getD_replicate_false] at hl; cases hl), fun t _ ht => getD_in (by simpa using ht) (getD_replicate_false _ _)⟩
  have H := qHead_lex (md := .any) (g := l.toArray.size - n) hsel hs hc hn (l.take n) 0 _ a (fun j hj => by
    rw [e1] at hj
    simp [hj]) (by simpa using e1) inv0 (by rw [e1]; exact hlex) h
  refine wp_region_any hm ?_
  have := wpAny_of_qHead (Q := Q) (g := l.toArray.size - n) (fun s a' w' hw' hL => by
    have := wpAny_of_seq (md := .any) (Q' := Q) (l.drop n) n s a' w' (fun j => by simp [List.getElem?_drop]) (by rw [e2]; exact hL.1) (hL.2 w' hw')
    rwa [e2] at this) _ _ _ _ hC H
  rw [e1, show n + (l.toArray.size - n) = l.toArray.size by omega] at this
  exact this

variable {n : Nat} {Q : Exit → (Nat → Value) → World → Prop} {f : Nat → Value}
theorem t_list {id k : Nat} {l : List Oper} (hm : P.follows .mixedOrders = true) (hL : Region.lexTailB .any l.toArray k = true) (hC : ∀ w, C w → C w.drew) (hB : opsB n l.toArray = true)
    (h : qw P l.toArray C (fun f => sC P l.toArray (fun f w => Q .normal f w) (l.drop k) f C) (l.take k) f) : cC P n (.region id l.toArray true) Q f C :=
  fun w hw => wp_region_quiet_tail (C := C) k hm hL (hC w hw) (qw_wpQuiet (fun f hK w' hw' => sw_wpList (fun f w hq => ⟨f, rfl, hq⟩) (l.drop k) (by
      have : ∀ o ∈ l, operB n l.toArray o = true := by simpa [opsB] using hB
      exact List.all_eq_true.2 fun o ho => this o (List.mem_of_mem_drop ho)) f w' (hK w' hw')) (l.take k) (by
      have : ∀ o ∈ l, operB n l.toArray o = true := by simpa [opsB] using hB
      exact List.all_eq_true.2 fun o ho => this o (List.mem_of_mem_take ho)) f h)
theorem t_seq {id k : Nat} {l : List Oper} {y : Code} (hm : P.follows .mixedOrders = true) (hL : Region.lexTailB .any l.toArray k = true) (hC : ∀ w, C w → C w.drew) (hB : opsB n l.toArray = true)
    (h : qw P l.toArray C (fun f => sC P l.toArray (fun f w => cw P n y Q f w) (l.drop k) f C) (l.take k) f) : cC P n (.seq (.region id l.toArray true) y) Q f C :=
  c_seq (t_list hm hL hC hB h)
theorem q_tail {K : (Nat → Value) → World → Prop} {l : List Oper} (h : sC P ops K l f C) : qw P ops C (fun f => sC P ops K l f C) [] f := h
end

theorem n_doneC {P : Program} {fn : Func} {n t T b m ty : Nat} {fr : Nat × Nat} {cs : Array Value} {f : Nat → Value} {v : Value} {w0 : World} {F : Addr → Value → Prop} {L : List (Nat × Obj)} (hr : fn.results = #[.cell t T]) (ht : t < n) (hp : f t = .pointer (some ⟨b, 0, none⟩))
    (hT : aggB P T m = true) (hl : Look L b (.cells cs ty fr)) (hm : cs.size = m) (hv : .agg cs = v) : nC (retQ P fn n (fun v' w' => v' = v ∧ Bel w0.heap.size w0 w')) .ret f (Has w0 F L) := by
  intro w hw
  refine ⟨.agg cs, ?_, hv, hw.1⟩
  have e : (Fa n f).tmps[t]?.getD undef = f t := by simp [Fa, ht]
  subst hm
  have := run_loadN (P := P) (w := w) (b := b) (o := 0) (cs := cs.toList) (by simpa using hT) (fun j v hj => by
    rw [cell_has hw hl]; simpa using hj)
  simp only [Instr.loadAt, Instr.sureAddr, Sem.run_bind, Sem.run_pure, Result.andThen] at this
  simp [results, hr, e, hp, asAddr, this]
end Go.Proofs.Ytmkboljfbmlebaa
