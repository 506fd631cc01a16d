/- A region that draws its order, whose operations read, or call what hands back memory of its own: what each comes to follows from what it looks at, in whatever order. No condition. -/
import Derived.Test.YtbgnmapmiobjcaaK11
namespace Go.Proofs.Ytbgnmapmiobjcaa
open Go.RowKit
set_option linter.unusedSimpArgs false
set_option linter.unusedVariables false

def dstsOf (l : List Oper) : List Nat := l.filterMap (·.dst)
/-- what is looked at and set by one of them is set by one that binds; edges go back; each sets a slot of its own -/
def flowB (md : Region.Mode) (l : List Oper) : Bool :=
  (dstsOf l).Nodup && Region.noSelect l.toArray && l.zipIdx.all fun (o, i) => (o.looksAt l.toArray).all (fun t => l.zipIdx.all fun (u, j) => !(u.dst == some t) || o.after.any (fun e => Region.binds md e && e.on == j)) && o.after.all (fun e => !Region.binds md e || decide (e.on < i))
section
variable {P : Program} {n : Nat} {C : World → Prop} {f : Nat → Value} {l : List Oper} {Ψ : Nat → Value → World → Prop} {Q : Exit → (Nat → Value) → World → Prop}

/-- what one operation must do -/
def Ob (P : Program) (C : World → Prop) (f : Nat → Value) (l : List Oper) (Ψ : Nat → Value → World → Prop) (o : Oper) : Prop :=
  ∀ g w, C w → (∀ t ∈ o.looksAt l.toArray, (t ∈ dstsOf l → Ψ t (g t) w) ∧ (t ∉ dstsOf l → g t = f t)) →
    if Region.wanted o (yf l.toArray g) then opk P o g w (fun g' w' => ∃ v, g' = updo g o.dst v ∧ Bel w.heap.size w w' ∧ ∀ d, o.dst = some d → Ψ d v w') else ∀ d, o.dst = some d → Ψ d undef w
def Obs (P : Program) (C : World → Prop) (f : Nat → Value) (l : List Oper) (Ψ : Nat → Value → World → Prop) : List Oper → Prop
  | [] => True
  | o :: r => Ob P C f l Ψ o ∧ Obs P C f l Ψ r
theorem Obs.mem {r : List Oper} (h : Obs P C f l Ψ r) : ∀ o ∈ r, Ob P C f l Ψ o := by
  induction r with
  | nil => intro o ho; cases ho
  | cons x r ih =>
    intro o ho
    rcases List.mem_cons.1 ho with e | ho
    · rw [e]; exact h.1
    · exact ih h.2 o ho
def unset (b : Bool) : Bool := !b

structure FlowInv (C : World → Prop) (f : Nat → Value) (l : List Oper) (Ψ : Nat → Value → World → Prop) (s : Array Bool) (g : Nat → Value) (w : World) : Prop where
  size : s.size = l.length
  cls : C w
  done : ∀ (i : Nat) (o : Oper) (d : Nat), l[i]? = some o → s[i]? = some true → o.dst = some d → Ψ d (g d) w
  out : ∀ t, t ∉ dstsOf l → g t = f t

theorem dst_unique : ∀ {l : List Oper}, (dstsOf l).Nodup → ∀ {i j : Nat} {o u : Oper} {d : Nat}, l[i]? = some o → l[j]? = some u → o.dst = some d → u.dst = some d → i = j
  | [], _, i, j, o, u, d, h, _, _, _ => by simp at h
  | x :: r, hn, i, j, o, u, d, hi, hj, ho, hu => by
    have hmem : ∀ {k : Nat} {y : Oper}, r[k]? = some y → y.dst = some d → d ∈ dstsOf r := fun hk hy => List.mem_filterMap.2 ⟨_, List.mem_of_getElem? hk, hy⟩
    have hr : (dstsOf r).Nodup := by
      unfold dstsOf at hn
      cases hx : x.dst with
      | none => rw [List.filterMap_cons_none hx] at hn; exact hn
      | some e => rw [List.filterMap_cons_some hx] at hn; exact (List.nodup_cons.1 hn).2
    have hx0 : x.dst = some d → d ∉ dstsOf r := fun hx => by
      unfold dstsOf at hn
      rw [List.filterMap_cons_some hx] at hn
      exact (List.nodup_cons.1 hn).1
    cases i with
    | zero =>
      cases j with
      | zero => rfl
      | succ j =>
        simp at hi hj; subst hi
        exact absurd (hmem hj hu) (hx0 ho)
    | succ i =>
      cases j with
      | zero =>
        simp at hi hj; subst hj
        exact absurd (hmem hi ho) (hx0 hu)
      | succ j =>
        simp at hi hj
        rw [dst_unique hr hi hj ho hu]

theorem d_flow {id : Nat} (hm : P.follows .mixedOrders = true) (hB : opsB n l.toArray = true) (hF : flowB .any l = true) (hC : ∀ w w', C w → Bel w.heap.size w w' → C w')
    (hΨ : ∀ d v w w', C w → Bel w.heap.size w w' → Ψ d v w → Ψ d v w') (h : Obs P C f l Ψ l)
    (k : ∀ g w, C w → (∀ d ∈ dstsOf l, Ψ d (g d) w) → (∀ t, t ∉ dstsOf l → g t = f t) → Q .normal g w) : cC P n (.region id l.toArray true) Q f C := by
  simp only [flowB, Bool.and_eq_true, decide_eq_true_eq, List.all_eq_true] at hF
  obtain ⟨⟨hnd, hsel⟩, hall⟩ := hF
  have hop : ∀ (i : Nat) (o : Oper), l[i]? = some o → (∀ t ∈ o.looksAt l.toArray, ∀ (j : Nat) (u : Oper), l[j]? = some u → u.dst = some t → ∃ e ∈ o.after, Region.binds .any e = true ∧ e.on = j) ∧ (∀ e ∈ o.after, Region.binds .any e = true → e.on < i) := by
    intro i o hi
    have := hall (o, i) (List.mem_zipIdx_iff_getElem?.2 hi)
    simp only [Bool.and_eq_true, List.all_eq_true] at this
    obtain ⟨h1, h2⟩ := this
    refine ⟨fun t ht j u hj hu => ?_, fun e he hb => ?_⟩
    · have := h1 t ht (u, j) (List.mem_zipIdx_iff_getElem?.2 hj)
      simp [hu] at this
      obtain ⟨i', hi', e1, e2⟩ := this
      exact ⟨_, Array.getElem_mem hi', e1, e2⟩
    · have := Array.all_eq_true_iff_forall_mem.1 h2 e he
      simpa [hb] using this
  have hB' : ∀ o ∈ l, operB n l.toArray o = true := by simpa [opsB] using hB
  have main : ∀ (fuel : Nat) (s : Array Bool) (g : Nat → Value) (w : World), FlowInv C f l Ψ s g w → s.toList.countP unset ≤ fuel → wpAny P .any l.toArray (fun e a w => ∃ f, a = Fa n f ∧ Q e f w) fuel s (Fa n g) w := by
    have all : ∀ (s : Array Bool) (g : Nat → Value) (w : World), FlowInv C f l Ψ s g w → Region.ready .any l.toArray s = [] → Q .normal g w := by
      intro s g w inv hr
      have hls : ∀ i, i < l.length → s[i]? = some true := by
        intro i
        induction i using Nat.strongRecOn with
        | _ i ih =>
          intro hi
          have his : i < s.size := by rw [inv.size]; exact hi
          cases hv : s[i] with
          | true => simp [his, hv]
          | false =>
            exfalso
            have : i ∈ Region.ready .any l.toArray s := mem_ready.2 ⟨by simp [Array.getD, his, hv], l[i], by simp [hi], fun e he hb => by
              have hlt := (hop i l[i] (by simp [hi])).2 e he hb
              have := ih e.on hlt (by omega)
              have hsz := (Array.getElem?_eq_some_iff.1 this)
              obtain ⟨h1, h2⟩ := hsz
              simp [Array.getD, h1, h2]⟩
            rw [hr] at this
            cases this
      refine k g w inv.cls (fun d hd => ?_) inv.out
      obtain ⟨o, ho, hd'⟩ := List.mem_filterMap.1 hd
      obtain ⟨i, hi, he⟩ := List.getElem_of_mem ho
      exact inv.done i o d (by simp [hi, he]) (hls i hi) hd'
    intro fuel
    induction fuel with
    | zero =>
      intro s g w inv hc
      have hr : Region.ready .any l.toArray s = [] := by
        cases hr : Region.ready .any l.toArray s with
        | nil => rfl
        | cons i r =>
          exfalso
          have hi := (mem_ready.1 (show i ∈ Region.ready .any l.toArray s by rw [hr]; simp)).1
          have : false ∈ s.toList := by
            by_cases hs : i < s.size
            · simp [Array.getD, hs] at hi
              rw [← hi]; simp
            · simp [Array.getD, hs] at hi
          have := List.countP_pos_iff (p := unset).2 ⟨false, this, rfl⟩
          omega
      exact ⟨hr, g, rfl, all s g w inv hr⟩
    | succ fuel ih =>
      intro s g w inv hc
      refine ⟨fun hr => ⟨g, rfl, all s g w inv hr⟩, fun i hi => ?_⟩
      obtain ⟨hun, o, ho, hed⟩ := mem_ready.1 hi
      have hol : l[i]? = some o := by simpa using ho
      have hom : o ∈ l := List.mem_of_getElem? hol
      have his : i < s.size := by
        rcases Nat.lt_or_ge i s.size with h | h
        · exact h
        · have hn : ¬ i < s.size := by omega
          simp [Array.getD, hn] at hun
      have hfalse : s[i] = false := by simpa [Array.getD, his] using hun
      have hcount : (s.setIfInBounds i true).toList.countP unset ≤ fuel := by
        have e1 : unset (s.toList[i]'(by simpa using his)) = true := by simp [unset, hfalse]
        have h0 : 0 < s.toList.countP unset := List.countP_pos_iff.2 ⟨s.toList[i]'(by simpa using his), List.getElem_mem _, e1⟩
        rw [Array.toList_setIfInBounds, List.countP_set (by simpa using his), if_pos e1, if_neg (by simp [unset])]
        omega
      have hob := h.mem o hom g w inv.cls (fun t ht => ⟨fun htd => by
        obtain ⟨u, hu, hut⟩ := List.mem_filterMap.1 htd
        obtain ⟨j, hj, he⟩ := List.getElem_of_mem hu
        have hj' : l[j]? = some u := by simp [hj, he]
        obtain ⟨e, he1, he2, he3⟩ := (hop i o hol).1 t ht j u hj' hut
        have := hed e he1 he2
        rw [he3] at this
        refine inv.done j u t hj' ?_ hut
        have hjs : j < s.size := by rw [inv.size]; exact hj
        simp [Array.getD, hjs] at this
        simp [hjs, this], inv.out t⟩)
      have next : ∀ v w', Bel w.heap.size w w' → (∀ d, o.dst = some d → Ψ d v w') → FlowInv C f l Ψ (s.setIfInBounds i true) (updo g o.dst v) w' := by
        intro v w' hbel hv
        refine ⟨by simp [inv.size], hC w w' inv.cls hbel, fun j u d hj hs hu => ?_, fun t ht => ?_⟩
        · by_cases hji : j = i
          · subst hji
            rw [hol] at hj
            simp at hj; subst hj
            rw [hu]
            simp only [updo, upd_same]
            exact hv d hu
          · have hs' : s[j]? = some true := by rw [Array.getElem?_setIfInBounds_ne (Ne.symm hji)] at hs; exact hs
            have hne : o.dst ≠ some d := fun e => hji (dst_unique hnd hj hol hu e)
            have := hΨ d _ w w' inv.cls hbel (inv.done j u d hj hs' hu)
            cases hod : o.dst with
            | none => exact this
            | some d' =>
              simp only [updo]
              rw [upd_other g v (fun e => hne (by rw [hod, e]))]
              exact this
        · cases hod : o.dst with
          | none => exact inv.out t ht
          | some d' =>
            simp only [updo]
            rw [upd_other g v (fun e => ht (List.mem_filterMap.2 ⟨o, hom, by rw [hod, e]⟩))]
            exact inv.out t ht
      unfold wpOp
      simp only [ho]
      rw [Fa_wanted (hB' o hom)]
      split
      · rename_i hw
        rw [if_pos hw] at hob
        refine Or.inl ?_
        unfold Oper.wp
        rw [Fa_exec (hB' o hom)]
        unfold opk at hob
        generalize (execOp (ev g) o).run P w = r at hob
        cases r with
        | ok nx w' =>
          cases nx <;> simp only at hob <;> simp only [Oper.upon]
          case value v =>
            obtain ⟨v', e, hbel, hv⟩ := hob
            rw [Fa_put, e]
            exact ih _ _ _ (next v' w' hbel hv) hcount
          case skip =>
            obtain ⟨v', e, hbel, hv⟩ := hob
            rw [Fa_put, e]
            exact ih _ _ _ (next v' w' hbel hv) hcount
          case enter fn args =>
            refine Calls.mono hob fun e w'' ⟨v, he, v', e', hbel, hv⟩ => ?_
            subst he
            show wpAny P .any l.toArray _ fuel _ ((Fa n g).put o.dst v) w''
            rw [Fa_put, e']
            exact ih _ _ _ (next v' w'' hbel hv) hcount
        | halt x w' => exact hob.elim
      · rename_i hw
        rw [if_neg hw] at hob
        rw [Fa_put]
        exact ih _ _ _ (next undef w (Bel.refl _ _) hob) hcount
  intro w hw
  refine wp_region_any hm ?_
  refine main _ _ f w.drew ⟨by simp, hC w _ hw ((Bel.refl _ _).drew), fun i o d hi hs hd => ?_, fun _ _ => rfl⟩ ?_
  · rw [Array.getElem?_replicate] at hs
    split at hs <;> simp at hs
  · have := List.countP_le_length (p := unset) (l := (Array.replicate l.toArray.size false).toList)
    simpa using this
end
end Go.Proofs.Ytbgnmapmiobjcaa
