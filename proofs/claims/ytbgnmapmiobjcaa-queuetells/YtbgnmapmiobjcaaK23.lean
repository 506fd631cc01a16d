/- A region that draws its order, with one write that may come at any time: what each operation comes to follows from what it looks at, before the write and behind it. No condition. -/
import Derived.Test.YtbgnmapmiobjcaaK15
namespace Go.Proofs.Ytbgnmapmiobjcaa
open Go.RowKit
set_option linter.unusedSimpArgs false
set_option linter.unusedVariables false

section
variable {P : Program} {n : Nat} {C0 C1 : World → Prop} {f : Nat → Value} {l : List Oper} {Ψ : Nat → Value → Prop} {Q : Exit → (Nat → Value) → World → Prop}
/-- what is held of each slot, whatever the memory -/
def Fix (Ψ : Nat → Value → Prop) : Nat → Value → World → Prop := fun d v _ => Ψ d v
/-- what the write must do -/
def ObW (P : Program) (C0 C1 : World → Prop) (f : Nat → Value) (l : List Oper) (Ψ : Nat → Value → Prop) (o : Oper) : Prop :=
  ∀ g, (∀ t ∈ o.looksAt l.toArray, (t ∈ dstsOf l → Ψ t (g t)) ∧ (t ∉ dstsOf l → g t = f t)) → o.guard = none ∧ sC P l.toArray (fun g' w' => ∃ v, g' = updo g o.dst v ∧ C1 w' ∧ ∀ d, o.dst = some d → Ψ d v) [o] g C0
structure FlowInvW (C0 C1 : World → Prop) (j0 : Nat) (f : Nat → Value) (l : List Oper) (Ψ : Nat → Value → Prop) (s : Array Bool) (g : Nat → Value) (w : World) : Prop where
  size : s.size = l.length
  cls0 : s[j0]? = some false → C0 w
  cls1 : s[j0]? = some true → C1 w
  done : ∀ (i : Nat) (o : Oper) (d : Nat), l[i]? = some o → s[i]? = some true → o.dst = some d → Ψ d (g d)
  out : ∀ t, t ∉ dstsOf l → g t = f t

theorem d_flowW {id j0 : Nat} {o0 : Oper} (hm : P.follows .mixedOrders = true) (hB : opsB n l.toArray = true) (hF : flowB .any l = true) (hj0 : l[j0]? = some o0) (hC0 : ∀ w w', C0 w → Bel w.heap.size w w' → C0 w') (hC1 : ∀ w w', C1 w → Bel w.heap.size w w' → C1 w')
    (h0 : Obs P C0 f l (Fix Ψ) (l.eraseIdx j0)) (h1 : Obs P C1 f l (Fix Ψ) (l.eraseIdx j0)) (hst : ObW P C0 C1 f l Ψ o0)
    (k : ∀ g w, C1 w → (∀ d ∈ dstsOf l, Ψ d (g d)) → (∀ t, t ∉ dstsOf l → g t = f t) → Q .normal g w) : cC P n (.region id l.toArray true) Q f C0 := by
  simp only [flowB, Bool.and_eq_true, decide_eq_true_eq, List.all_eq_true] at hF
  obtain ⟨⟨hnd, hsel⟩, hall⟩ := hF
  have hop : ∀ (i : Nat) (o : Oper), l[i]? = some o → (∀ t ∈ o.looksAt l.toArray, ∀ (j : Nat) (u : Oper), l[j]? = some u → u.dst = some t → ∃ e ∈ o.after, Region.binds .any e = true ∧ e.on = j) ∧ (∀ e ∈ o.after, Region.binds .any e = true → e.on < i) := by
    intro i o hi
    have := hall (o, i) (List.mem_zipIdx_iff_getElem?.2 hi)
    simp only [Bool.and_eq_true, List.all_eq_true] at this
    obtain ⟨h1, h2⟩ := this
    refine ⟨fun t ht j u hj hu => ?_, fun e he hb => ?_⟩
    · have := h1 t ht (u, j) (List.mem_zipIdx_iff_getElem?.2 hj)
      simp [hu] at this
      obtain ⟨i', hi', e1, e2⟩ := this
      exact ⟨_, Array.getElem_mem hi', e1, e2⟩
    · have := Array.all_eq_true_iff_forall_mem.1 h2 e he
      simpa [hb] using this
  have hB' : ∀ o ∈ l, operB n l.toArray o = true := by simpa [opsB] using hB
  have hj0l : j0 < l.length := (List.getElem?_eq_some_iff.1 hj0).1
  have main : ∀ (fuel : Nat) (s : Array Bool) (g : Nat → Value) (w : World), FlowInvW C0 C1 j0 f l Ψ s g w → s.toList.countP unset ≤ fuel → wpAny P .any l.toArray (fun e a w => ∃ f, a = Fa n f ∧ Q e f w) fuel s (Fa n g) w := by
    have all : ∀ (s : Array Bool) (g : Nat → Value) (w : World), FlowInvW C0 C1 j0 f l Ψ s g w → Region.ready .any l.toArray s = [] → Q .normal g w := by
      intro s g w inv hr
      have hls : ∀ i, i < l.length → s[i]? = some true := by
        intro i
        induction i using Nat.strongRecOn with
        | _ i ih =>
          intro hi
          have his : i < s.size := by rw [inv.size]; exact hi
          cases hv : s[i] with
          | true => simp [his, hv]
          | false =>
            exfalso
            have : i ∈ Region.ready .any l.toArray s := mem_ready.2 ⟨by simp [Array.getD, his, hv], l[i], by simp [hi], fun e he hb => by
              have hlt := (hop i l[i] (by simp [hi])).2 e he hb
              have := ih e.on hlt (by omega)
              have hsz := (Array.getElem?_eq_some_iff.1 this)
              obtain ⟨h1, h2⟩ := hsz
              simp [Array.getD, h1, h2]⟩
            rw [hr] at this
            cases this
      refine k g w (inv.cls1 (hls j0 hj0l)) (fun d hd => ?_) inv.out
      obtain ⟨o, ho, hd'⟩ := List.mem_filterMap.1 hd
      obtain ⟨i, hi, he⟩ := List.getElem_of_mem ho
      exact inv.done i o d (by simp [hi, he]) (hls i hi) hd'
    intro fuel
    induction fuel with
    | zero =>
      intro s g w inv hc
      have hr : Region.ready .any l.toArray s = [] := by
        cases hr : Region.ready .any l.toArray s with
        | nil => rfl
        | cons i r =>
          exfalso
          have hi := (mem_ready.1 (show i ∈ Region.ready .any l.toArray s by rw [hr]; simp)).1
          have : false ∈ s.toList := by
            by_cases hs : i < s.size
            · simp [Array.getD, hs] at hi
              rw [← hi]; simp
            · simp [Array.getD, hs] at hi
          have := List.countP_pos_iff (p := unset).2 ⟨false, this, rfl⟩
          omega
      exact ⟨hr, g, rfl, all s g w inv hr⟩
    | succ fuel ih =>
      intro s g w inv hc
      refine ⟨fun hr => ⟨g, rfl, all s g w inv hr⟩, fun i hi => ?_⟩
      obtain ⟨hun, o, ho, hed⟩ := mem_ready.1 hi
      have hol : l[i]? = some o := by simpa using ho
      have hom : o ∈ l := List.mem_of_getElem? hol
      have his : i < s.size := by
        rcases Nat.lt_or_ge i s.size with h | h
        · exact h
        · have hn : ¬ i < s.size := by omega
          simp [Array.getD, hn] at hun
      have hfalse : s[i] = false := by simpa [Array.getD, his] using hun
      have hcount : (s.setIfInBounds i true).toList.countP unset ≤ fuel := by
        have e1 : unset (s.toList[i]'(by simpa using his)) = true := by simp [unset, hfalse]
        have h0 : 0 < s.toList.countP unset := List.countP_pos_iff.2 ⟨s.toList[i]'(by simpa using his), List.getElem_mem _, e1⟩
        rw [Array.toList_setIfInBounds, List.countP_set (by simpa using his), if_pos e1, if_neg (by simp [unset])]
        omega
      have hlk : ∀ t ∈ o.looksAt l.toArray, (t ∈ dstsOf l → Ψ t (g t)) ∧ (t ∉ dstsOf l → g t = f t) := fun t ht => ⟨fun htd => by
        obtain ⟨u, hu, hut⟩ := List.mem_filterMap.1 htd
        obtain ⟨j, hj, he⟩ := List.getElem_of_mem hu
        have hj' : l[j]? = some u := by simp [hj, he]
        obtain ⟨e, he1, he2, he3⟩ := (hop i o hol).1 t ht j u hj' hut
        have := hed e he1 he2
        rw [he3] at this
        refine inv.done j u t hj' ?_ hut
        have hjs : j < s.size := by rw [inv.size]; exact hj
        simp [Array.getD, hjs] at this
        simp [hjs, this], inv.out t⟩
      have next : ∀ v w', ((s.setIfInBounds i true)[j0]? = some false → C0 w') → ((s.setIfInBounds i true)[j0]? = some true → C1 w') → (∀ d, o.dst = some d → Ψ d v) → FlowInvW C0 C1 j0 f l Ψ (s.setIfInBounds i true) (updo g o.dst v) w' := by
        intro v w' hc0 hc1 hv
        refine ⟨by simp [inv.size], hc0, hc1, fun j u d hj hs hu => ?_, fun t ht => ?_⟩
        · by_cases hji : j = i
          · subst hji
            rw [hol] at hj
            simp at hj; subst hj
            rw [hu]
            simp only [updo, upd_same]
            exact hv d hu
          · have hs' : s[j]? = some true := by rw [Array.getElem?_setIfInBounds_ne (Ne.symm hji)] at hs; exact hs
            have hne : o.dst ≠ some d := fun e => hji (dst_unique hnd hj hol hu e)
            have := inv.done j u d hj hs' hu
            cases hod : o.dst with
            | none => exact this
            | some d' =>
              simp only [updo]
              rw [upd_other g v (fun e => hne (by rw [hod, e]))]
              exact this
        · cases hod : o.dst with
          | none => exact inv.out t ht
          | some d' =>
            simp only [updo]
            rw [upd_other g v (fun e => ht (List.mem_filterMap.2 ⟨o, hom, by rw [hod, e]⟩))]
            exact inv.out t ht
      have hob : if Region.wanted o (yf l.toArray g) then opk P o g w (fun g' w' => ∃ v, g' = updo g o.dst v ∧ FlowInvW C0 C1 j0 f l Ψ (s.setIfInBounds i true) (updo g o.dst v) w') else FlowInvW C0 C1 j0 f l Ψ (s.setIfInBounds i true) (updo g o.dst undef) w := by
        by_cases hij : i = j0
        · subst hij
          rw [hol] at hj0
          simp at hj0; subst hj0
          obtain ⟨hgd, hsc⟩ := hst g hlk
          have hc0 := inv.cls0 (by simp [his, hfalse])
          have := hsc w hc0
          have hwt : Region.wanted o (yf l.toArray g) = true := by
            unfold Region.wanted; rw [hgd]
          unfold sw at this
          rw [if_pos hwt] at this ⊢
          unfold opk at this ⊢
          have fin : ∀ g' w', (∃ v, g' = updo g o.dst v ∧ C1 w' ∧ ∀ d, o.dst = some d → Ψ d v) → ∃ v, g' = updo g o.dst v ∧ FlowInvW C0 C1 i f l Ψ (s.setIfInBounds i true) (updo g o.dst v) w' := by
            rintro g' w' ⟨v, e, hc1, hv⟩
            exact ⟨v, e, next v w' (fun hx => by simp [his] at hx) (fun _ => hc1) hv⟩
          generalize (execOp (ev g) o).run P w = r at this ⊢
          cases r with
          | ok nx w' =>
            cases nx <;> simp only at this ⊢
            case value v => exact fin _ _ this
            case skip => exact fin _ _ this
            case enter fn args => exact Calls.mono this fun e w'' ⟨v, he, h⟩ => ⟨v, he, fin _ _ h⟩
          | halt x w' => exact this
        · have hmem : o ∈ l.eraseIdx j0 := List.mem_eraseIdx_iff_getElem?.2 ⟨i, hij, hol⟩
          have hsj : (s.setIfInBounds i true)[j0]? = s[j0]? := Array.getElem?_setIfInBounds_ne hij
          have both : ∀ C : World → Prop, (∀ w w', C w → Bel w.heap.size w w' → C w') → Obs P C f l (Fix Ψ) (l.eraseIdx j0) → C w → ((s[j0]? = some false → C = C0) ∧ (s[j0]? = some true → C = C1)) →
              if Region.wanted o (yf l.toArray g) then opk P o g w (fun g' w' => ∃ v, g' = updo g o.dst v ∧ FlowInvW C0 C1 j0 f l Ψ (s.setIfInBounds i true) (updo g o.dst v) w') else FlowInvW C0 C1 j0 f l Ψ (s.setIfInBounds i true) (updo g o.dst undef) w := by
            intro C hC hO hw hcc
            have hb := hO.mem o hmem g w hw hlk
            have nx : ∀ v w', Bel w.heap.size w w' → (∀ d, o.dst = some d → Ψ d v) → FlowInvW C0 C1 j0 f l Ψ (s.setIfInBounds i true) (updo g o.dst v) w' := fun v w' hbel hv =>
              next v w' (fun hx => by rw [hsj] at hx; rw [← hcc.1 hx]; exact hC w w' hw hbel) (fun hx => by rw [hsj] at hx; rw [← hcc.2 hx]; exact hC w w' hw hbel) hv
            split
            · rename_i hwt
              rw [if_pos hwt] at hb
              unfold opk at hb ⊢
              generalize (execOp (ev g) o).run P w = r at hb ⊢
              cases r with
              | ok nx' w' =>
                cases nx' <;> simp only at hb ⊢
                case value v => obtain ⟨v', e, hbel, hv⟩ := hb; exact ⟨v', e, nx v' w' hbel hv⟩
                case skip => obtain ⟨v', e, hbel, hv⟩ := hb; exact ⟨v', e, nx v' w' hbel hv⟩
                case enter fn args => exact Calls.mono hb fun e w'' ⟨v, he, v', e', hbel, hv⟩ => ⟨v, he, v', e', nx v' w'' hbel hv⟩
              | halt x w' => exact hb
            · rename_i hwt
              rw [if_neg hwt] at hb
              exact nx undef w (Bel.refl _ _) hb
          have hjs : j0 < s.size := by rw [inv.size]; exact hj0l
          cases hv : s[j0] with
          | false =>
            have e : s[j0]? = some false := by simp [hjs, hv]
            exact both C0 hC0 h0 (inv.cls0 e) ⟨fun _ => rfl, fun h => by rw [e] at h; simp at h⟩
          | true =>
            have e : s[j0]? = some true := by simp [hjs, hv]
            exact both C1 hC1 h1 (inv.cls1 e) ⟨fun h => by rw [e] at h; simp at h, fun _ => rfl⟩
      unfold wpOp
      simp only [ho]
      rw [Fa_wanted (hB' o hom)]
      split
      · rename_i hw
        rw [if_pos hw] at hob
        refine Or.inl ?_
        unfold Oper.wp
        rw [Fa_exec (hB' o hom)]
        unfold opk at hob
        generalize (execOp (ev g) o).run P w = r at hob
        cases r with
        | ok nx w' =>
          cases nx <;> simp only at hob <;> simp only [Oper.upon]
          case value v =>
            obtain ⟨v', e, hinv⟩ := hob
            rw [Fa_put, e]
            exact ih _ _ _ hinv hcount
          case skip =>
            obtain ⟨v', e, hinv⟩ := hob
            rw [Fa_put, e]
            exact ih _ _ _ hinv hcount
          case enter fn args =>
            refine Calls.mono hob fun e w'' ⟨v, he, v', e', hinv⟩ => ?_
            subst he
            show wpAny P .any l.toArray _ fuel _ ((Fa n g).put o.dst v) w''
            rw [Fa_put, e']
            exact ih _ _ _ hinv hcount
        | halt x w' => exact hob.elim
      · rename_i hw
        rw [if_neg hw] at hob
        rw [Fa_put]
        exact ih _ _ _ hob hcount
  intro w hw
  refine wp_region_any hm ?_
  refine main _ _ f w.drew ⟨by simp, fun _ => hC0 w _ hw ((Bel.refl _ _).drew), fun hx => ?_, fun i o d hi hs hd => ?_, fun _ _ => rfl⟩ ?_
  · rw [Array.getElem?_replicate] at hx
    split at hx <;> simp at hx
  · rw [Array.getElem?_replicate] at hs
    split at hs <;> simp at hs
  · have := List.countP_le_length (p := unset) (l := (Array.replicate l.toArray.size false).toList)
    simpa using this
/-- a table of what the slots hold -/
def rowV (d : Nat) (v : Value) (T : Nat → Value → Prop) : Nat → Value → Prop := fun i => bif Nat.beq i d then (fun u => u = v) else T i
def AnyV : Nat → Value → Prop := fun _ _ => True
theorem ow_end {g : Nat → Value} {ops : Array Oper} : sC P ops (fun g' w' => ∃ v, g' = updo g none v ∧ C1 w' ∧ ∀ d, (none : Option Nat) = some d → Ψ d v) [] g C1 := fun w hw => ⟨undef, rfl, hw, fun d h => by cases h⟩
variable {w0 : World} {F : Addr → Value → Prop} {L L' : List (Nat × Obj)}
theorem fw_list {id j0 : Nat} {o0 : Oper} (hm : P.follows .mixedOrders = true) (hB : opsB n l.toArray = true) (hF : flowB .any l = true) (hj0 : l[j0]? = some o0)
    (h0 : Obs P (Has w0 F L) f l (Fix Ψ) (l.eraseIdx j0)) (h1 : Obs P (Has w0 F L') f l (Fix Ψ) (l.eraseIdx j0)) (hst : ObW P (Has w0 F L) (Has w0 F L') f l Ψ o0)
    (k : ∀ g, (∀ d ∈ dstsOf l, Ψ d (g d)) → (∀ t, t ∉ dstsOf l → g t = f t) → nC Q .normal g (Has w0 F L')) : cC P n (.region id l.toArray true) Q f (Has w0 F L) :=
  d_flowW hm hB hF hj0 (fun w w' hw hb => hw.below hb) (fun w w' hw hb => hw.below hb) h0 h1 hst (fun g w hw h1 h2 => k g h1 h2 w hw)
theorem fw_seq {id j0 : Nat} {o0 : Oper} {y : Code} (hm : P.follows .mixedOrders = true) (hB : opsB n l.toArray = true) (hF : flowB .any l = true) (hj0 : l[j0]? = some o0)
    (h0 : Obs P (Has w0 F L) f l (Fix Ψ) (l.eraseIdx j0)) (h1 : Obs P (Has w0 F L') f l (Fix Ψ) (l.eraseIdx j0)) (hst : ObW P (Has w0 F L) (Has w0 F L') f l Ψ o0)
    (k : ∀ g, (∀ d ∈ dstsOf l, Ψ d (g d)) → (∀ t, t ∉ dstsOf l → g t = f t) → cC P n y Q g (Has w0 F L')) : cC P n (.seq (.region id l.toArray true) y) Q f (Has w0 F L) :=
  c_seq (d_flowW hm hB hF hj0 (fun w w' hw hb => hw.below hb) (fun w w' hw hb => hw.below hb) h0 h1 hst (fun g w hw h1 h2 => k g h1 h2 w hw))
variable {d : Nat} {op : Op} {ty : TypeId} {pos : String} {af : Array Edge} {C : World → Prop}
theorem obw_val {v : Value} (h : ∀ (g : Nat → Value), (∀ t ∈ (⟨some d, op, ty, pos, af, none⟩ : Oper).looksAt l.toArray, (t ∈ dstsOf l → Ψ t (g t)) ∧ (t ∉ dstsOf l → g t = f t)) → Val P g C ⟨some d, op, ty, pos, af, none⟩ v ∧ Ψ d v) : Ob P C f l (Fix Ψ) ⟨some d, op, ty, pos, af, none⟩ := by
  intro g w hw hl
  rw [if_pos wanted_free]
  obtain ⟨hv, hp⟩ := h g hl
  unfold opk
  rw [hv.out w hw]
  exact ⟨v, rfl, Bel.refl _ _, fun e he => by simp at he; subst he; exact hp⟩
end
end Go.Proofs.Ytbgnmapmiobjcaa
