/- What bookBack_holds stands on, part 5: each part says what it proves. No condition beside those that it names. -/
import Derived.Test.YtmkboljfbmlebaaPL114
import Derived.Laws.Tables
import Derived.Great.BuildSlice
import Derived.Laws.IdiomStrings
import Derived.Laws.Strings3
import Derived.Laws.Concat
import Derived.Laws.Entries
/- A region that draws its order, whose operations read, or call what hands back memory of its own: what each comes to follows from what it looks at, in whatever order. No condition. -/
namespace Go.Proofs.Ytmkboljfbmlebaa
open Go.RowKit
set_option linter.unusedSimpArgs false
set_option linter.unusedVariables false

def dstsOf (l : List Oper) : List Nat := l.filterMap (·.dst)
/-- what is looked at and set by one of them is set by one that binds; edges go back; each sets a slot of its own -/
def flowB (md : Region.Mode) (l : List Oper) : Bool :=
  (dstsOf l).Nodup && Region.noSelect l.toArray && l.zipIdx.all fun (o, i) => (o.looksAt l.toArray).all (fun t => l.zipIdx.all fun (u, j) => !(u.dst == some t) || o.after.any (fun e => Region.binds md e && e.on == j)) && o.after.all (fun e => !Region.binds md e || decide (e.on < i))
section
variable {P : Program} {n : Nat} {C : World → Prop} {f : Nat → Value} {l : List Oper} {Ψ : Nat → Value → World → Prop} {Q : Exit → (Nat → Value) → World → Prop}

/-- what one operation must do -/
def Ob (P : Program) (C : World → Prop) (f : Nat → Value) (l : List Oper) (Ψ : Nat → Value → World → Prop) (o : Oper) : Prop :=
  ∀ g w, C w → (∀ t ∈ o.looksAt l.toArray, (t ∈ dstsOf l → Ψ t (g t) w) ∧ (t ∉ dstsOf l → g t = f t)) →
    if Region.wanted o (yf l.toArray g) then opk P o g w (fun g' w' => ∃ v, g' = updo g o.dst v ∧ Bel w.heap.size w w' ∧ ∀ d, o.dst = some d → Ψ d v w') else ∀ d, o.dst = some d → Ψ d undef w
def Obs (P : Program) (C : World → Prop) (f : Nat → Value) (l : List Oper) (Ψ : Nat → Value → World → Prop) : List Oper → Prop
  | [] => True
  | o :: r => Ob P C f l Ψ o ∧ Obs P C f l Ψ r
theorem Obs.mem {r : List Oper} (h : Obs P C f l Ψ r) : ∀ o ∈ r, Ob P C f l Ψ o := by
  induction r with
  | nil => intro o ho; cases ho
  | cons x r ih =>
    intro o ho
    rcases List.mem_cons.1 ho with e | ho
    · rw [e]; exact h.1
    · exact ih h.2 o ho
def unset (b : Bool) : Bool := !b

structure FlowInv (C : World → Prop) (f : Nat → Value) (l : List Oper) (Ψ : Nat → Value → World → Prop) (s : Array Bool) (g : Nat → Value) (w : World) : Prop where
  size : s.size = l.length
  cls : C w
  done : ∀ (i : Nat) (o : Oper) (d : Nat), l[i]? = some o → s[i]? = some true → o.dst = some d → Ψ d (g d) w
  out : ∀ t, t ∉ dstsOf l → g t = f t

theorem dst_unique : ∀ {l : List Oper}, (dstsOf l).Nodup → ∀ {i j : Nat} {o u : Oper} {d : Nat}, l[i]? = some o → l[j]? = some u → o.dst = some d → u.dst = some d → i = j
  | [], _, i, j, o, u, d, h, _, _, _ => by simp at h
  | x :: r, hn, i, j, o, u, d, hi, hj, ho, hu => by
    have hmem : ∀ {k : Nat} {y : Oper}, r[k]? = some y → y.dst = some d → d ∈ dstsOf r := fun hk hy => List.mem_filterMap.2 ⟨_, List.mem_of_getElem? hk, hy⟩
    have hr : (dstsOf r).Nodup := by
      unfold dstsOf at hn
      cases hx : x.dst with
      | none => rw [List.filterMap_cons_none hx] at hn; exact hn
      | some e => rw [List.filterMap_cons_some hx] at hn; exact (List.nodup_cons.1 hn).2
    have hx0 : x.dst = some d → d ∉ dstsOf r := fun hx => by
      unfold dstsOf at hn
      rw [List.filterMap_cons_some hx] at hn
      exact (List.nodup_cons.1 hn).1
    cases i with
    | zero =>
      cases j with
      | zero => rfl
      | succ j =>
        simp at hi hj; subst hi
        exact absurd (hmem hj hu) (hx0 ho)
    | succ i =>
      cases j with
      | zero =>
        simp at hi hj; subst hj
        exact absurd (hmem hi ho) (hx0 hu)
      | succ j =>
        simp at hi hj
        rw [dst_unique hr hi hj ho hu]

theorem d_flow {id : Nat} (hm : P.follows .mixedOrders = true) (hB : opsB n l.toArray = true) (hF : flowB .any l = true) (hC : ∀ w w', C w → Bel w.heap.size w w' → C w')
    (hΨ : ∀ d v w w', C w → Bel w.heap.size w w' → Ψ d v w → Ψ d v w') (h : Obs P C f l Ψ l)
    (k : ∀ g w, C w → (∀ d ∈ dstsOf l, Ψ d (g d) w) → (∀ t, t ∉ dstsOf l → g t = f t) → Q .normal g w) : cC P n (.region id l.toArray true) Q f C := by
  simp only [flowB, Bool.and_eq_true, decide_eq_true_eq, List.all_eq_true] at hF
  obtain ⟨⟨hnd, hsel⟩, hall⟩ := hF
  have hop : ∀ (i : Nat) (o : Oper), l[i]? = some o → (∀ t ∈ o.looksAt l.toArray, ∀ (j : Nat) (u : Oper), l[j]? = some u → u.dst = some t → ∃ e ∈ o.after, Region.binds .any e = true ∧ e.on = j) ∧ (∀ e ∈ o.after, Region.binds .any e = true → e.on < i) := by
    intro i o hi
    have := hall (o, i) (List.mem_zipIdx_iff_getElem?.2 hi)
    simp only [Bool.and_eq_true, List.all_eq_true] at this
    obtain ⟨h1, h2⟩ := this
    refine ⟨fun t ht j u hj hu => ?_, fun e he hb => ?_⟩
    · have := h1 t ht (u, j) (List.mem_zipIdx_iff_getElem?.2 hj)
      simp [hu] at this
      obtain ⟨i', hi', e1, e2⟩ := this
      exact ⟨_, Array.getElem_mem hi', e1, e2⟩
    · have := Array.all_eq_true_iff_forall_mem.1 h2 e he
      simpa [hb] using this
  have hB' : ∀ o ∈ l, operB n l.toArray o = true := by simpa [opsB] using hB
  have main : ∀ (fuel : Nat) (s : Array Bool) (g : Nat → Value) (w : World), FlowInv C f l Ψ s g w → s.toList.countP unset ≤ fuel → wpAny P .any l.toArray (fun e a w => ∃ f, a = Fa n f ∧ Q e f w) fuel s (Fa n g) w := by
    have all : ∀ (s : Array Bool) (g : Nat → Value) (w : World), FlowInv C f l Ψ s g w → Region.ready .any l.toArray s = [] → Q .normal g w := by
      intro s g w inv hr
      have hls : ∀ i, i < l.length → s[i]? = some true := by
        intro i
        induction i using Nat.strongRecOn with
        | _ i ih =>
          intro hi
          have his : i < s.size := by rw [inv.size]; exact hi
          cases hv : s[i] with
          | true => simp [his, hv]
          | false =>
            exfalso
            have : i ∈ Region.ready .any l.toArray s := mem_ready.2 ⟨by simp [Array.getD, his, hv], l[i], by simp [hi], fun e he hb => by
              have hlt := (hop i l[i] (by simp [hi])).2 e he hb
              have := ih e.on hlt (by omega)
              have hsz := (Array.getElem?_eq_some_iff.1 this)
              obtain ⟨h1, h2⟩ := hsz
              simp [Array.getD, h1, h2]⟩
            rw [hr] at this
            cases this
      refine k g w inv.cls (fun d hd => ?_) inv.out
      obtain ⟨o, ho, hd'⟩ := List.mem_filterMap.1 hd
      obtain ⟨i, hi, he⟩ := List.getElem_of_mem ho
      exact inv.done i o d (by simp [hi, he]) (hls i hi) hd'
    intro fuel
    induction fuel with
    | zero =>
      intro s g w inv hc
      have hr : Region.ready .any l.toArray s = [] := by
        cases hr : Region.ready .any l.toArray s with
        | nil => rfl
        | cons i r =>
          exfalso
          have hi := (mem_ready.1 (show i ∈ Region.ready .any l.toArray s by rw [hr]; simp)).1
          have : false ∈ s.toList := by
            by_cases hs : i < s.size
            · simp [Array.getD, hs] at hi
              rw [← hi]; simp
            · simp [Array.getD, hs] at hi
          have := List.countP_pos_iff (p := unset).2 ⟨false, this, rfl⟩
          omega
      exact ⟨hr, g, rfl, all s g w inv hr⟩
    | succ fuel ih =>
      intro s g w inv hc
      refine ⟨fun hr => ⟨g, rfl, all s g w inv hr⟩, fun i hi => ?_⟩
      obtain ⟨hun, o, ho, hed⟩ := mem_ready.1 hi
      have hol : l[i]? = some o := by simpa using ho
      have hom : o ∈ l := List.mem_of_getElem? hol
      have his : i < s.size := by
        rcases Nat.lt_or_ge i s.size with h | h
        · exact h
        · have hn : ¬ i < s.size := by omega
          simp [Array.getD, hn] at hun
      have hfalse : s[i] = false := by simpa [Array.getD, his] using hun
      have hcount : (s.setIfInBounds i true).toList.countP unset ≤ fuel := by
        have e1 : unset (s.toList[i]'(by simpa using his)) = true := by simp [unset, hfalse]
        have h0 : 0 < s.toList.countP unset := List.countP_pos_iff.2 ⟨s.toList[i]'(by simpa using his), List.getElem_mem _, e1⟩
        rw [Array.toList_setIfInBounds, List.countP_set (by simpa using his), if_pos e1, if_neg (by simp [unset])]
        omega
      have hob := h.mem o hom g w inv.cls (fun t ht => ⟨fun htd => by
        obtain ⟨u, hu, hut⟩ := List.mem_filterMap.1 htd
        obtain ⟨j, hj, he⟩ := List.getElem_of_mem hu
        have hj' : l[j]? = some u := by simp [hj, he]
        obtain ⟨e, he1, he2, he3⟩ := (hop i o hol).1 t ht j u hj' hut
        have := hed e he1 he2
        rw [he3] at this
        refine inv.done j u t hj' ?_ hut
        have hjs : j < s.size := by rw [inv.size]; exact hj
        simp [Array.getD, hjs] at this
        simp [hjs, this], inv.out t⟩)
      have next : ∀ v w', Bel w.heap.size w w' → (∀ d, o.dst = some d → Ψ d v w') → FlowInv C f l Ψ (s.setIfInBounds i true) (updo g o.dst v) w' := by
        intro v w' hbel hv
        refine ⟨by simp [inv.size], hC w w' inv.cls hbel, fun j u d hj hs hu => ?_, fun t ht => ?_⟩
        · by_cases hji : j = i
          · subst hji
            rw [hol] at hj
            simp at hj; subst hj
            rw [hu]
            simp only [updo, upd_same]
            exact hv d hu
          · have hs' : s[j]? = some true := by rw [Array.getElem?_setIfInBounds_ne (Ne.symm hji)] at hs; exact hs
            have hne : o.dst ≠ some d := fun e => hji (dst_unique hnd hj hol hu e)
            have := hΨ d _ w w' inv.cls hbel (inv.done j u d hj hs' hu)
            cases hod : o.dst with
            | none => exact this
            | some d' =>
              simp only [updo]
              rw [upd_other g v (fun e => hne (by rw [hod, e]))]
              exact this
        · cases hod : o.dst with
          | none => exact inv.out t ht
          | some d' =>
            simp only [updo]
            rw [upd_other g v (fun e => ht (List.mem_filterMap.2 ⟨o, hom, by rw [hod, e]⟩))]
            exact inv.out t ht
      unfold wpOp
      simp only [ho]
      rw [Fa_wanted (hB' o hom)]
      split
      · rename_i hw
        rw [if_pos hw] at hob
        refine Or.inl ?_
        unfold Oper.wp
        rw [Fa_exec (hB' o hom)]
        unfold opk at hob
        generalize (execOp (ev g) o).run P w = r at hob
        cases r with
        | ok nx w' =>
          cases nx <;> simp only at hob <;> simp only [Oper.upon]
          case value v =>
            obtain ⟨v', e, hbel, hv⟩ := hob
            rw [Fa_put, e]
            exact ih _ _ _ (next v' w' hbel hv) hcount
          case skip =>
            obtain ⟨v', e, hbel, hv⟩ := hob
            rw [Fa_put, e]
            exact ih _ _ _ (next v' w' hbel hv) hcount
          case enter fn args =>
            refine Calls.mono hob fun e w'' ⟨v, he, v', e', hbel, hv⟩ => ?_
            subst he
            show wpAny P .any l.toArray _ fuel _ ((Fa n g).put o.dst v) w''
            rw [Fa_put, e']
            exact ih _ _ _ (next v' w'' hbel hv) hcount
        | halt x w' => exact hob.elim
      · rename_i hw
        rw [if_neg hw] at hob
        rw [Fa_put]
        exact ih _ _ _ (next undef w (Bel.refl _ _) hob) hcount
  intro w hw
  refine wp_region_any hm ?_
  refine main _ _ f w.drew ⟨by simp, hC w _ hw ((Bel.refl _ _).drew), fun i o d hi hs hd => ?_, fun _ _ => rfl⟩ ?_
  · rw [Array.getElem?_replicate] at hs
    split at hs <;> simp at hs
  · have := List.countP_le_length (p := unset) (l := (Array.replicate l.toArray.size false).toList)
    simpa using this
end
end Go.Proofs.Ytmkboljfbmlebaa
/- Structs put together, tuples taken apart, replies and lists of numbers compared. No condition. -/
namespace Go.Proofs.Ytmkboljfbmlebaa
open Go.RowKit
set_option linter.unusedSimpArgs false
set_option linter.unusedVariables false

section
variable {P : Program} {f : Nat → Value} {C : World → Prop} {dst : Option Nat} {ty : TypeId} {pos : String} {af : Array Edge} {gd : Option (Nat × Bool)}
theorem v_build {T : TypeId} {parts : List (Nat × Operand)} {vs : List (Nat × Value)} {cs : Array Value} (hv : parts.map (fun p => (p.1, ev f p.2)) = vs) (h : P.built T vs = some cs) : Val P f C ⟨dst, .build T parts.toArray, ty, pos, af, gd⟩ (.agg cs) :=
  ⟨fun w _ => by
    have e : (parts.toArray.map fun p => (p.1, ev f p.2)) = vs.toArray := by simp [hv]
    have hr := run_build (P := P) w T vs.toArray cs (by simpa using h)
    simp only [execOp]
    rw [e]
    simp [hr]⟩
theorem v_extract {x : Operand} {vs : Array Value} {i : Nat} {v : Value} (hx : ev f x = .tuple vs) (hi : vs[i]? = some v) : Val P f C ⟨dst, .extract x i, ty, pos, af, gd⟩ v :=
  ⟨fun w _ => by simp [execOp, hx, Instr.extract, hi]⟩
end
/-- where a list's numbers stand -/
def IntsAt (F : Addr → Value → Prop) (a : Option Addr) (xs : List Int) : Prop := xs = [] ∨ ∃ b o, a = some ⟨b, o, none⟩ ∧ ∀ (j : Nat) (x : Int), xs[j]? = some x → F ⟨b, o + j, none⟩ (I x)
theorem IntsIn.at {F : Addr → Value → Prop} {v : Value} {xs : List Int} (h : IntsIn F v xs) : ∃ a c, v = .slice a xs.length c ∧ IntsAt F a xs := h
theorem IntsAt.mono {F F' : Addr → Value → Prop} {a : Option Addr} {xs : List Int} (h : IntsAt F a xs) (hm : More F F') : IntsAt F' a xs := by
  rcases h with h | ⟨b, o, h1, h2⟩
  · exact .inl h
  · exact .inr ⟨b, o, h1, fun j x hj => hm _ _ (h2 j x hj)⟩
theorem IntsAt.get {F : Addr → Value → Prop} {a : Option Addr} {xs : List Int} (h : IntsAt F a xs) {j : Nat} (hj : j < xs.length) : ∃ b o x, a = some ⟨b, o, none⟩ ∧ xs[j]? = some x ∧ F ⟨b, o + j, none⟩ (I x) := by
  rcases h with rfl | ⟨b, o, h1, h2⟩
  · simp at hj
  · exact ⟨b, o, xs[j], h1, by simp [hj], h2 j _ (by simp [hj])⟩
theorem IntsAt.at {w0 w : World} {F : Addr → Value → Prop} {L : List (Nat × Obj)} {a : Option Addr} {xs : List Int} (h : IntsAt F a xs) (hw : Has w0 F L w) : IntsAt (At w) a xs := h.mono hw.at
def repC (c n : Int) (v : Value) : Array Value := #[I c, I n, v]
def sameRB (c1 n1 : Int) (xs : List Int) (c2 n2 : Int) (ys : List Int) : Bool := decide (c1 = c2) && decide (n1 = n2) && decide (xs = ys)
theorem same_take {xs ys : List Int} {j : Nat} {x y : Int} (h : xs.take j = ys.take j) (hx : xs[j]? = some x) (hy : ys[j]? = some y) (he : x = y) : xs.take (j + 1) = ys.take (j + 1) := by
  rw [List.take_add_one, List.take_add_one, h, hx, hy, he]
theorem ints_all {xs ys : List Int} {j : Nat} (hl : (xs.length : Int) = ys.length) (h : xs.take j = ys.take j) (hj : ¬ (j : Int) < xs.length) : xs = ys := by
  rw [List.take_of_length_le (by omega), List.take_of_length_le (by omega)] at h; exact h
theorem ints_bad {xs ys : List Int} {j : Nat} {x y : Int} (hx : xs[j]? = some x) (hy : ys[j]? = some y) (he : ¬ x = y) : ¬ xs = ys := by
  rintro rfl; rw [hx] at hy; simp at hy; exact he hy
theorem ints_len {xs ys : List Int} (hl : ¬ (xs.length : Int) = ys.length) : ¬ xs = ys := by rintro rfl; exact hl rfl
end Go.Proofs.Ytmkboljfbmlebaa
/- The steps of a region that draws its order, one operation at a time. No condition. -/
namespace Go.Proofs.Ytmkboljfbmlebaa
open Go.RowKit
set_option linter.unusedSimpArgs false
set_option linter.unusedVariables false

theorem at_below {w w' : World} (h : Bel w.heap.size w w') : More (At w) (At w') := fun a v ha => by
  show w'.cell? a = some v
  rw [h.cell (cell_lt ha)]; exact ha
theorem fresh_at (w w' : World) : More (Fresh w w') (At w') := fun _ _ h => h.1
/-- what each slot holds, said of the memory that is there -/
def Tab (T : Nat → (Addr → Value → Prop) → Value → Prop) (d : Nat) (v : Value) (w : World) : Prop := T d (At w) v
def Eqv (x : Value) : (Addr → Value → Prop) → Value → Prop := fun _ v => v = x
def Any : (Addr → Value → Prop) → Value → Prop := fun _ _ => True
def row (d : Nat) (R : (Addr → Value → Prop) → Value → Prop) (T : Nat → (Addr → Value → Prop) → Value → Prop) : Nat → (Addr → Value → Prop) → Value → Prop := fun i => bif Nat.beq i d then R else T i
theorem eqv_mono (x : Value) : Mono (Eqv x) := fun _ _ _ _ h => h
theorem any_mono : Mono Any := fun _ _ _ _ _ => trivial
theorem ints_mono (xs : List Int) : Mono (fun F v => IntsIn F v xs) := fun _ _ _ hm h => h.mono hm
theorem row_mono {d : Nat} {R : (Addr → Value → Prop) → Value → Prop} {T : Nat → (Addr → Value → Prop) → Value → Prop} (hR : Mono R) (hT : ∀ i, Mono (T i)) : ∀ i, Mono (row d R T i) := fun i => by
  unfold row
  cases Nat.beq i d
  · exact hT i
  · exact hR
section
variable {P : Program} {n : Nat} {f : Nat → Value} {l : List Oper} {T : Nat → (Addr → Value → Prop) → Value → Prop} {Q : Exit → (Nat → Value) → World → Prop} {w0 : World} {F : Addr → Value → Prop} {L : List (Nat × Obj)}
theorem f_list {id : Nat} (hm : P.follows .mixedOrders = true) (hB : opsB n l.toArray = true) (hF : flowB .any l = true) (hT : ∀ i, Mono (T i)) (h : Obs P (Has w0 F L) f l (Tab T) l)
    (k : ∀ g w, Has w0 F L w → (∀ d ∈ dstsOf l, T d (At w) (g d)) → (∀ t, t ∉ dstsOf l → g t = f t) → Q .normal g w) : cC P n (.region id l.toArray true) Q f (Has w0 F L) :=
  d_flow hm hB hF (fun w w' hw hb => hw.below hb) (fun d v w w' _ hb h => hT d _ _ v (at_below hb) h) h k
theorem f_seq {id : Nat} {y : Code} (hm : P.follows .mixedOrders = true) (hB : opsB n l.toArray = true) (hF : flowB .any l = true) (hT : ∀ i, Mono (T i)) (h : Obs P (Has w0 F L) f l (Tab T) l)
    (k : ∀ g w, Has w0 F L w → (∀ d ∈ dstsOf l, T d (At w) (g d)) → (∀ t, t ∉ dstsOf l → g t = f t) → cw P n y Q g w) : cC P n (.seq (.region id l.toArray true) y) Q f (Has w0 F L) :=
  c_seq (f_list hm hB hF hT h k)
/-- one operation, its guard told -/
def Ox (P : Program) (T : Nat → (Addr → Value → Prop) → Value → Prop) (d : Nat) (op : Op) (ty : TypeId) (pos : String) (af : Array Edge) (gd : Option (Nat × Bool)) (g : Nat → Value) (w : World) : Prop :=
  opk P ⟨some d, op, ty, pos, af, gd⟩ g w (fun g' w' => ∃ v, g' = updo g (some d) v ∧ Bel w.heap.size w w' ∧ ∀ e, some d = some e → Tab T e v w')
variable {d : Nat} {op : Op} {ty : TypeId} {pos : String} {af : Array Edge} {C : World → Prop}
theorem ob_free (h : ∀ (g : Nat → Value) (w : World), C w → (∀ t ∈ (⟨some d, op, ty, pos, af, none⟩ : Oper).looksAt l.toArray, (t ∈ dstsOf l → Tab T t (g t) w) ∧ (t ∉ dstsOf l → g t = f t)) → Ox P T d op ty pos af none g w) : Ob P C f l (Tab T) ⟨some d, op, ty, pos, af, none⟩ := by
  intro g w hw hl
  rw [if_pos wanted_free]
  exact h g w hw hl
theorem ob_want {j s : Nat} {b : Bool} (hj : (l.toArray[j]?).bind (·.dst) = some s) (hs : ∀ (g : Nat → Value) (w : World), C w → (∀ t ∈ (⟨some d, op, ty, pos, af, some (j, b)⟩ : Oper).looksAt l.toArray, (t ∈ dstsOf l → Tab T t (g t) w) ∧ (t ∉ dstsOf l → g t = f t)) → g s = .bool b ∧ Ox P T d op ty pos af (some (j, b)) g w) : Ob P C f l (Tab T) ⟨some d, op, ty, pos, af, some (j, b)⟩ := by
  intro g w hw hl
  obtain ⟨h1, h2⟩ := hs g w hw hl
  have : Region.wanted ⟨some d, op, ty, pos, af, some (j, b)⟩ (yf l.toArray g) = true := by
    simp only [Region.wanted, yf, hj, h1]
    simp
  rw [if_pos this]
  exact h2
theorem ob_pass {j s : Nat} {b c : Bool} (hj : (l.toArray[j]?).bind (·.dst) = some s) (hs : ∀ (g : Nat → Value) (w : World), C w → (∀ t ∈ (⟨some d, op, ty, pos, af, some (j, b)⟩ : Oper).looksAt l.toArray, (t ∈ dstsOf l → Tab T t (g t) w) ∧ (t ∉ dstsOf l → g t = f t)) → g s = .bool c ∧ c = !b ∧ ∀ w, Tab T d undef w) : Ob P C f l (Tab T) ⟨some d, op, ty, pos, af, some (j, b)⟩ := by
  intro g w hw hl
  obtain ⟨h1, h2, h3⟩ := hs g w hw hl
  have : ¬ Region.wanted ⟨some d, op, ty, pos, af, some (j, b)⟩ (yf l.toArray g) = true := by
    subst h2
    simp only [Region.wanted, yf, hj, h1]
    cases b <;> simp
  rw [if_neg this]
  intro e he
  simp at he; subst he
  exact h3 w
variable {g : Nat → Value} {w : World} {gd : Option (Nat × Bool)} {v : Value}
theorem x_val (hv : Val P g C ⟨some d, op, ty, pos, af, gd⟩ v) (hw : C w) (ht : T d (At w) v) : Ox P T d op ty pos af gd g w := by
  unfold Ox opk
  rw [hv.out w hw]
  exact ⟨v, rfl, Bel.refl _ _, fun e he => by simp at he; subst he; exact ht⟩
theorem x_call {k : FuncId} {xs : List Operand} {ats : Array TypeId} {vs : List Value} (hk : hasBody P k = true) (hx : xs.map (ev g) = vs) (hg : Gives P k vs w v) (ht : ∀ w', T d (At w') v) : Ox P T d (.call ⟨.value (.func k), xs.toArray, ats⟩) ty pos af gd g w := by
  unfold Ox opk
  rw [run_call hk w, hx]
  exact hg.out.mono fun e w' ⟨he, hb⟩ => ⟨v, he, v, rfl, hb, fun e he => by simp at he; subst he; exact ht w'⟩
theorem x_callF {k : FuncId} {xs : List Operand} {ats : Array TypeId} {vs : List Value} {R : (Addr → Value → Prop) → Value → Prop} (hk : hasBody P k = true) (hx : xs.map (ev g) = vs) (hg : GivesF P k vs w R) (ht : ∀ w' v, Bel w.heap.size w w' → R (Fresh w w') v → T d (At w') v) : Ox P T d (.call ⟨.value (.func k), xs.toArray, ats⟩) ty pos af gd g w := by
  unfold Ox opk
  rw [run_call hk w, hx]
  exact hg.out.mono fun e w' ⟨v, he, hb, hr⟩ => ⟨v, he, v, rfl, hb, fun e he => by simp at he; subst he; exact ht w' v hb hr⟩
theorem cC_at {y : Code} (h : cC P n y Q g C) (hw : C w) : cw P n y Q g w := h w hw
theorem nC_at (h : nC Q .normal g C) (hw : C w) : Q .normal g w := h w hw
end
end Go.Proofs.Ytmkboljfbmlebaa
/- The queue is the one list of a bank's queued payments in the order of class, then number. No condition. -/
namespace Go.Proofs.Ytmkboljfbmlebaa
open Go.RowKit
set_option linter.unusedSimpArgs false
set_option linter.unusedVariables false

def payLt (p q : PayS) : Prop := p.cls < q.cls ∨ (p.cls = q.cls ∧ p.seq < q.seq)
/-- payment i comes before payment j -/
def lessK (ps : List PayS) (i j : Int) : Prop := ∃ p q, ps[i.toNat]? = some p ∧ ps[j.toNat]? = some q ∧ payLt p q
theorem payLt_trans {p q r : PayS} (h1 : payLt p q) (h2 : payLt q r) : payLt p r := by unfold payLt at *; omega
theorem payLt_irrefl (p : PayS) : ¬ payLt p p := by unfold payLt; omega
theorem not_payLt_trans {p q r : PayS} (h1 : ¬ payLt q p) (h2 : ¬ payLt r q) : ¬ payLt r p := by unfold payLt at *; omega

theorem best_least (ps : List PayS) (bank : Int) (taken : List Int) : ∀ k, k ≤ ps.length → ∀ (j : Nat), j < k → Mine ps bank j → (j : Int) ∉ taken → 0 ≤ bestTo ps bank taken k ∧ ¬ lessK ps j (bestTo ps bank taken k)
  | 0, _, j, hj, _, _ => by omega
  | k + 1, hk, j, hj, hm, ht => by
    obtain ⟨p, hp⟩ : ∃ p, ps[k]? = some p := ⟨ps[k], by simp⟩
    rw [best_step hp]
    have hr := best_range ps bank taken k
    by_cases hjk : j < k
    · obtain ⟨h0, h1⟩ := best_least ps bank taken k (by omega) j hjk hm ht
      cases hw : wantB ps bank taken (bestTo ps bank taken k) k p
      · exact ⟨h0, h1⟩
      · simp only [cond_true]
        refine ⟨by omega, ?_⟩
        rintro ⟨a, b, ha, hb, hab⟩
        simp at hb; rw [hp] at hb; simp at hb; subst hb
        obtain ⟨c, hc⟩ : ∃ c, ps[(bestTo ps bank taken k).toNat]? = some c := ⟨ps[(bestTo ps bank taken k).toNat]'(by omega), by simp⟩
        have hlt : payLt p c := by
          simp only [wantB, better, hc, Bool.and_eq_true, Bool.or_eq_true, decide_eq_true_eq] at hw
          unfold payLt
          omega
        exact h1 ⟨a, c, ha, hc, payLt_trans hab hlt⟩
    · obtain rfl : j = k := by omega
      obtain ⟨_, q, hq, hs, hsrc⟩ := hm
      simp at hq; rw [hp] at hq; simp at hq; subst hq
      cases hw : wantB ps bank taken (bestTo ps bank taken j) j p
      · simp only [cond_false]
        have hnb : better ps (bestTo ps bank taken j) p = false := by
          simpa [wantB, hs, hsrc, ht] using hw
        simp only [better, Bool.or_eq_false_iff, decide_eq_false_iff_not] at hnb
        have h0 : 0 ≤ bestTo ps bank taken j := by omega
        refine ⟨h0, ?_⟩
        rintro ⟨a, b, ha, hb, hab⟩
        simp at ha; rw [hp] at ha; simp at ha; subst ha
        have h2 := hnb.2
        rw [hb] at h2
        simp only [Bool.or_eq_false_iff, decide_eq_false_iff_not, Bool.and_eq_false_iff] at h2
        unfold payLt at hab
        omega
      · simp only [cond_true]
        refine ⟨by omega, ?_⟩
        rintro ⟨a, b, ha, hb, hab⟩
        rw [ha] at hb; simp at hb; subst hb
        exact payLt_irrefl _ hab

structure QTo (ps : List PayS) (bank : Int) (k : Nat) (xs : List Int) : Prop where
  mine : ∀ i ∈ xs, Mine ps bank i
  nodup : xs.Nodup
  sorted : xs.Pairwise fun i j => ¬ lessK ps j i
  rest : ∀ j, Mine ps bank j → j ∉ xs → (∀ i ∈ xs, ¬ lessK ps j i) ∧ xs.length = k
theorem Mine.lt {ps : List PayS} {bank i : Int} (h : Mine ps bank i) : 0 ≤ i ∧ i.toNat < ps.length := by
  obtain ⟨h0, p, hp, _⟩ := h
  exact ⟨h0, (List.getElem?_eq_some_iff.1 hp).1⟩
theorem queueTo_spec (ps : List PayS) (bank : Int) : ∀ k, QTo ps bank k (queueTo ps bank k)
  | 0 => ⟨by simp [queueTo], by simp [queueTo], by simp [queueTo], fun j _ _ => by simp [queueTo]⟩
  | k + 1 => by
    have ih := queueTo_spec ps bank k
    cases hb : decide (0 ≤ bestTo ps bank (queueTo ps bank k) ps.length)
    · have hb0 := of_decide_eq_false hb
      rw [queueTo_no hb]
      refine ⟨ih.mine, ih.nodup, ih.sorted, fun j hj hn => ?_⟩
      exfalso
      obtain ⟨h0, h1⟩ := hj.lt
      have := best_least ps bank (queueTo ps bank k) ps.length (Nat.le_refl _) j.toNat h1 (by rwa [Int.toNat_of_nonneg h0]) (by rwa [Int.toNat_of_nonneg h0])
      exact hb0 this.1
    · have hb0 := of_decide_eq_true hb
      rw [queueTo_yes hb]
      obtain ⟨hm, hn⟩ := best_mine ps bank (queueTo ps bank k) ps.length hb0
      have hrest := ih.rest _ hm hn
      refine ⟨fun i hi => ?_, ?_, ?_, fun j hj hnj => ?_⟩
      · rcases List.mem_append.1 hi with hi | hi
        · exact ih.mine i hi
        · simp at hi; subst hi; exact hm
      · rw [List.nodup_append]
        refine ⟨ih.nodup, by simp, fun a ha b hb e => ?_⟩
        simp at hb; subst hb; subst e; exact hn ha
      · rw [List.pairwise_append]
        refine ⟨ih.sorted, by simp, fun a ha b hb => ?_⟩
        simp at hb; subst hb
        exact hrest.1 a ha
      · simp at hnj
        obtain ⟨h1, h2⟩ := ih.rest j hj hnj.1
        refine ⟨fun i hi => ?_, by simp [h2]⟩
        rcases List.mem_append.1 hi with hi | hi
        · exact h1 i hi
        · simp at hi; subst hi
          obtain ⟨g0, g1⟩ := hj.lt
          have := best_least ps bank (queueTo ps bank k) ps.length (Nat.le_refl _) j.toNat g1 (by rwa [Int.toNat_of_nonneg g0]) (by rw [Int.toNat_of_nonneg g0]; exact hnj.1)
          rw [Int.toNat_of_nonneg g0] at this
          exact this.2
/-- numbers below n, each once: no more than n, and all of them where they are n -/
theorem nodup_full : ∀ (n : Nat) (xs : List Int), xs.Nodup → (∀ i ∈ xs, 0 ≤ i ∧ i < n) → xs.length ≤ n ∧ (xs.length = n → ∀ j : Int, 0 ≤ j → j < n → j ∈ xs)
  | 0, xs, _, h => by
    cases xs with
    | nil => exact ⟨by simp, fun _ j h0 h1 => by omega⟩
    | cons a r => have := h a (by simp); omega
  | n + 1, xs, hn, h => by
    by_cases hm : (n : Int) ∈ xs
    · have hp := List.perm_cons_erase hm
      have hn' : (xs.erase (n : Int)).Nodup := hn.erase _
      have hl := hp.length_eq
      simp at hl
      have := nodup_full n (xs.erase (n : Int)) hn' (fun i hi => by
        have h1 := h i (List.mem_of_mem_erase hi)
        have h2 : i ≠ n := fun e => by subst e; exact (List.Nodup.not_mem_erase hn) hi
        omega)
      have h0 := List.length_pos_of_mem hm
      refine ⟨by omega, fun he j h0 h1 => ?_⟩
      by_cases hj : j = n
      · rw [hj]; exact hm
      · exact List.mem_of_mem_erase (this.2 (by omega) j h0 (by omega))
    · have := nodup_full n xs hn (fun i hi => by
        have h1 := h i hi
        have h2 : i ≠ n := fun e => hm (e ▸ hi)
        omega)
      exact ⟨by omega, fun he => by omega⟩
theorem queueM_all {ps : List PayS} {bank j : Int} (h : Mine ps bank j) : j ∈ queueM ps bank := by
  have hs := queueTo_spec ps bank ps.length
  by_cases hj : j ∈ queueTo ps bank ps.length
  · exact hj
  · have := (hs.rest j h hj).2
    have hf := nodup_full ps.length _ hs.nodup (fun i hi => by have := (hs.mine i hi).lt; omega)
    have := h.lt
    exact hf.2 (by assumption) j (by omega) (by omega)
theorem mem_queueM {ps : List PayS} {bank j : Int} : j ∈ queueM ps bank ↔ Mine ps bank j := ⟨queueM_mine, queueM_all⟩
/-- with numbers that differ, the queue's order is strict .. -/
def SeqsApart (ps : List PayS) : Prop := ∀ (i j : Nat) (p q : PayS), ps[i]? = some p → ps[j]? = some q → p.seq = q.seq → i = j
theorem lessK_total {ps : List PayS} {bank i j : Int} (hs : SeqsApart ps) (hi : Mine ps bank i) (hj : Mine ps bank j) (hne : i ≠ j) (h : ¬ lessK ps j i) : lessK ps i j := by
  obtain ⟨i0, p, hp, _⟩ := hi
  obtain ⟨j0, q, hq, _⟩ := hj
  refine ⟨p, q, hp, hq, ?_⟩
  have h1 : ¬ payLt q p := fun e => h ⟨q, p, hq, hp, e⟩
  have h2 : p.seq ≠ q.seq := fun e => hne (by have := hs _ _ p q hp hq e; omega)
  unfold payLt at *
  omega
theorem queueM_sorted {ps : List PayS} (hs : SeqsApart ps) (bank : Int) : (queueM ps bank).Pairwise (lessK ps) := by
  have h := queueTo_spec ps bank ps.length
  have h1 : (queueM ps bank).Pairwise fun i j => i ≠ j ∧ ¬ lessK ps j i := (List.Pairwise.and h.nodup h.sorted)
  exact (List.Pairwise.imp_of_mem (fun {a b} ha hb hab => lessK_total hs (queueM_mine ha) (queueM_mine hb) hab.1 hab.2) h1)
/-- .. and so it is the only such list -/
theorem queueM_unique {ps : List PayS} {bank : Int} {xs : List Int} (hn : xs.Nodup) (hm : ∀ i, i ∈ xs ↔ Mine ps bank i) (hx : xs.Pairwise (lessK ps)) (hs : SeqsApart ps) : xs = queueM ps bank := by
  have hp : xs.Perm (queueM ps bank) := (List.perm_ext_iff_of_nodup hn (queueTo_spec ps bank ps.length).nodup).2 fun i => (hm i).trans (mem_queueM (ps := ps) (bank := bank)).symm
  refine List.Perm.eq_of_pairwise (le := lessK ps) (fun a b _ _ h1 h2 => ?_) hx (queueM_sorted hs bank) hp
  obtain ⟨p, q, e1, e2, e3⟩ := h1
  obtain ⟨p', q', e4, e5, e6⟩ := h2
  rw [e1] at e5; rw [e2] at e4
  simp at e4 e5; subst e4; subst e5
  exact absurd (payLt_trans e3 e6) (payLt_irrefl _)
end Go.Proofs.Ytmkboljfbmlebaa
/- After a sweep no bank's first payment may be sent; each that was settled was the first of its bank, and might be sent. No condition. -/
namespace Go.Proofs.Ytmkboljfbmlebaa
open Go.RowKit
set_option linter.unusedSimpArgs false
set_option linter.unusedVariables false

theorem drain_same {bank : Int} {s : QS} (h : (drain bank s).xs.length = s.xs.length) : firstM s.c s.ps bank = none ∧ drain bank s = s := by
  cases hf : firstM s.c s.ps bank with
  | none => exact ⟨rfl, drain_end hf⟩
  | some i =>
    exfalso
    rw [drain_go hf] at h
    have := (drain_facts bank (s.go i)).2.2
    simp only [QS.go, List.length_append, List.length_cons, List.length_nil] at this
    simp only [QS.go] at h
    omega
theorem sweep_rests : ∀ (m bank idle : Nat) (s : QS), 5 * cnt s.ps + (4 - idle) = m → bank < 4 → idle ≤ 4 → (∀ d, 1 ≤ d → d ≤ idle → firstM s.c s.ps (((bank + 4 - d) % 4 : Nat) : Int) = none) →
    ∀ b : Nat, b < 4 → firstM (sweepFrom bank idle s).c (sweepFrom bank idle s).ps b = none := by
  intro m
  induction m using Nat.strongRecOn with
  | _ m ih =>
    intro bank idle s hm hb hi h b hb4
    by_cases h4 : idle < 4
    · have hf := drain_facts bank s
      by_cases hl : (drain bank s).xs.length = s.xs.length
      · rw [sweep_idle h4 rfl hl]
        obtain ⟨h1, h2⟩ := drain_same hl
        rw [h2]
        refine ih _ ?_ ((bank + 1) % 4) (idle + 1) s rfl (Nat.mod_lt _ (by decide)) (by omega) (fun d hd1 hd2 => ?_) b hb4
        · omega
        · by_cases hd : d = 1
          · subst hd
            rw [show ((bank + 1) % 4 + 4 - 1) % 4 = bank by omega]; exact h1
          · have := h (d - 1) (by omega) (by omega)
            rwa [show (bank + 4 - (d - 1)) % 4 = ((bank + 1) % 4 + 4 - d) % 4 by omega] at this
      · rw [sweep_busy h4 rfl hl]
        exact ih _ (by omega) ((bank + 1) % 4) 0 _ rfl (Nat.mod_lt _ (by decide)) (by omega) (fun d hd1 hd2 => by omega) b hb4
    · rw [sweep_end h4]
      have hi4 : idle = 4 := by omega
      by_cases hbb : b < bank
      · have := h (bank - b) (by omega) (by omega)
        rwa [show (bank + 4 - (bank - b)) % 4 = b by omega] at this
      · have := h (bank + 4 - b) (by omega) (by omega)
        rwa [show (bank + 4 - (bank + 4 - b)) % 4 = b by omega] at this
theorem sweepM_rests {c : H} {ps : List PayS} (hg : goodB c ps = true) (b : Nat) (hb : b < 4) : firstM (sweepM c ps).c (sweepM c ps).ps b = none := by
  simp only [sweepM, hg, cond_true]
  exact sweep_rests _ 0 0 _ rfl (by decide) (by decide) (fun d h1 h2 => by omega) b hb

/-- a list of payments, each the first of its bank and such that it may be sent, one after the other -/
def Chain (c : H) (ps : List PayS) : List Int → Prop
  | [] => True
  | i :: r => (∃ b : Nat, b < 4 ∧ firstM c ps b = some i) ∧ Chain (settleC c ps i) (settleP ps i) r
def chainC (c : H) (ps : List PayS) : List Int → H
  | [] => c
  | i :: r => chainC (settleC c ps i) (settleP ps i) r
def chainP (ps : List PayS) : List Int → List PayS
  | [] => ps
  | i :: r => chainP (settleP ps i) r
/-- what has been done from one state to the next -/
def Goes (s t : QS) : Prop := ∃ r, t.xs = s.xs ++ r ∧ Chain s.c s.ps r ∧ t.c = chainC s.c s.ps r ∧ t.ps = chainP s.ps r
theorem Goes.refl (s : QS) : Goes s s := ⟨[], by simp, trivial, rfl, rfl⟩
theorem Goes.cons {s t : QS} {b : Nat} {i : Int} (hb : b < 4) (h : firstM s.c s.ps b = some i) (ht : Goes (s.go i) t) : Goes s t := by
  obtain ⟨r, h1, h2, h3, h4⟩ := ht
  exact ⟨i :: r, by rw [h1]; simp [QS.go], ⟨⟨b, hb, h⟩, h2⟩, h3, h4⟩
theorem chain_append : ∀ (r q : List Int) (c : H) (ps : List PayS), Chain c ps r → Chain (chainC c ps r) (chainP ps r) q → Chain c ps (r ++ q) ∧ chainC c ps (r ++ q) = chainC (chainC c ps r) (chainP ps r) q ∧ chainP ps (r ++ q) = chainP (chainP ps r) q
  | [], q, c, ps, _, h => ⟨h, rfl, rfl⟩
  | i :: r, q, c, ps, h1, h2 => by
    obtain ⟨e1, e2, e3⟩ := chain_append r q _ _ h1.2 h2
    exact ⟨⟨h1.1, e1⟩, e2, e3⟩
theorem Goes.trans {s t u : QS} (h1 : Goes s t) (h2 : Goes t u) : Goes s u := by
  obtain ⟨r, a1, a2, a3, a4⟩ := h1
  obtain ⟨q, b1, b2, b3, b4⟩ := h2
  rw [a3, a4] at b2 b3
  rw [a4] at b4
  obtain ⟨e1, e2, e3⟩ := chain_append r q _ _ a2 b2
  exact ⟨r ++ q, by rw [b1, a1, List.append_assoc], e1, by rw [b3, e2], by rw [b4, e3]⟩
theorem drain_goes : ∀ (m : Nat) (b : Nat) (s : QS), b < 4 → cnt s.ps = m → Goes s (drain b s) := by
  intro m
  induction m using Nat.strongRecOn with
  | _ m ih =>
    intro b s hb hm
    cases hf : firstM s.c s.ps b with
    | none => rw [drain_end hf]; exact Goes.refl s
    | some i =>
      rw [drain_go hf]
      obtain ⟨p, r, _, h1, _⟩ := firstM_spec hf
      have := cnt_settle h1
      exact Goes.cons hb hf (ih (cnt (s.go i).ps) (by simp only [QS.go]; omega) b (s.go i) hb rfl)
theorem sweep_goes : ∀ (m bank idle : Nat) (s : QS), 5 * cnt s.ps + (4 - idle) = m → bank < 4 → Goes s (sweepFrom bank idle s) := by
  intro m
  induction m using Nat.strongRecOn with
  | _ m ih =>
    intro bank idle s hm hb
    by_cases h4 : idle < 4
    · have hf := drain_facts bank s
      have hd := drain_goes _ bank s hb rfl
      by_cases hl : (drain bank s).xs.length = s.xs.length
      · rw [sweep_idle h4 rfl hl]
        exact hd.trans (ih _ (by omega) _ _ _ rfl (Nat.mod_lt _ (by decide)))
      · rw [sweep_busy h4 rfl hl]
        exact hd.trans (ih _ (by omega) _ _ _ rfl (Nat.mod_lt _ (by decide)))
    · rw [sweep_end h4]; exact Goes.refl s
theorem sweepM_goes {c : H} {ps : List PayS} (hg : goodB c ps = true) : Chain c ps (sweepM c ps).xs ∧ (sweepM c ps).c = chainC c ps (sweepM c ps).xs ∧ (sweepM c ps).ps = chainP ps (sweepM c ps).xs := by
  simp only [sweepM, hg, cond_true]
  obtain ⟨r, h1, h2, h3, h4⟩ := sweep_goes _ 0 0 ⟨c, ps, []⟩ rfl (by decide)
  simp only [List.nil_append] at h1
  rw [h1]
  exact ⟨h2, h3, h4⟩
end Go.Proofs.Ytmkboljfbmlebaa
/- What may be done together: where each bank stands behind it, and that of two such the more of each bank may be done too. No condition. -/
namespace Go.Proofs.Ytmkboljfbmlebaa
open Go.RowKit
set_option linter.unusedSimpArgs false
set_option linter.unusedVariables false

def moveQ (ps : List PayS) (bank : Int) (x : H) : List Int → H
  | [] => x
  | i :: r => moveQ ps bank (match ps[i.toNat]? with | some p => moveM x bank p.dst p.amt | none => x) r
theorem moveQ_snoc (ps : List PayS) (bank : Int) : ∀ (xs : List Int) (x : H) (i : Int), moveQ ps bank x (xs ++ [i]) = (match ps[i.toNat]? with | some p => moveM (moveQ ps bank x xs) bank p.dst p.amt | none => moveQ ps bank x xs)
  | [], x, i => rfl
  | j :: r, x, i => by simp only [List.cons_append, moveQ]; exact moveQ_snoc ps bank r _ i
def movesTo (h : H) (ps : List PayS) (n : Int → Int) : Nat → H
  | 0 => h
  | b + 1 => moveQ ps b (movesTo h ps n b) ((queueM ps b).take (n b).toNat)
def okBank (x : H) (b : Int) : Bool := !decide (wr (x.has b + x.cred b) < 0) && a4 fun t => !(decide (0 ≤ x.lim b t) && decide (x.lim b t < wr (x.sent b t - x.sent t b)))
def togetherM (h : H) (ps : List PayS) (n : Int → Int) : Bool :=
  goodB h ps && (a4 fun b => withinB (n b) 0 (queueM ps b).length) && a4 fun b => decide (n b = 0) || okBank (movesTo h ps n 4) b

/-! sums -/
def amtOf (ps : List PayS) (i : Int) : Int := match ps[i.toNat]? with | some p => p.amt | none => 0
def toOf (ps : List PayS) (d i : Int) : Int := match ps[i.toNat]? with | some p => if p.dst = d then p.amt else 0 | none => 0
def outS (ps : List PayS) : List Int → Int
  | [] => 0
  | i :: r => amtOf ps i + outS ps r
def toS (ps : List PayS) (d : Int) : List Int → Int
  | [] => 0
  | i :: r => toOf ps d i + toS ps d r
def GoodL (ps : List PayS) (bank : Int) (xs : List Int) : Prop := ∀ i ∈ xs, ∃ p, ps[i.toNat]? = some p ∧ goodTransferB bank p.dst p.amt = true
structure Near (k : Int) (h : H) : Prop where
  has : ∀ i : Int, 0 ≤ i ∧ i < 4 → -1099511627776 - k * 1000000 ≤ h.has i ∧ h.has i ≤ 1099511627776 + k * 1000000
  sent : ∀ i j : Int, 0 ≤ i ∧ i < 4 → 0 ≤ j ∧ j < 4 → 0 ≤ h.sent i j ∧ h.sent i j ≤ 1099511627776 + k * 1000000
theorem GoodH.near {h : H} (g : GoodH h) : Near 0 h := ⟨fun i hi => by have := g.has i hi; omega, fun i j hi hj => by have := g.sent i j hi hj; omega⟩
theorem move_at {h : H} {k : Int} (hn : Near k h) (hk : k ≤ 1000000) {a b n : Int} (ht : goodTransferB a b n = true) :
    moveM h a b n = { h with has := up1 (up1 h.has a (h.has a - n)) b (h.has b + n), sent := up2 h.sent a b (h.sent a b + n) } := by
  obtain ⟨ha, hb, hne, h1, h2⟩ := transfer_spec ht
  have e1 := hn.has a ha
  have e2 := hn.has b hb
  have e3 := hn.sent a b ha hb
  unfold moveM
  rw [if_pos ht]
  have x1 : wr (h.has a - n) = h.has a - n := wr_in (by omega) (by omega)
  have x2 : up1 h.has a (wr (h.has a - n)) b = h.has b := by unfold up1; rw [if_neg (fun e => hne e.symm)]
  rw [x2, x1, wr_in (show -9223372036854775808 ≤ h.has b + n by omega) (by omega), wr_in (show -9223372036854775808 ≤ h.sent a b + n by omega) (by omega)]
theorem moveQ_spec (ps : List PayS) (bank : Int) : ∀ (xs : List Int) (h : H) (k : Int), GoodL ps bank xs → Near k h → 0 ≤ k → k + xs.length ≤ 1000000 →
    (∀ i : Int, 0 ≤ i ∧ i < 4 → (moveQ ps bank h xs).has i = h.has i - (if i = bank then outS ps xs else 0) + toS ps i xs) ∧
    (∀ i j : Int, 0 ≤ i ∧ i < 4 → 0 ≤ j ∧ j < 4 → (moveQ ps bank h xs).sent i j = h.sent i j + (if i = bank then toS ps j xs else 0)) ∧
    (moveQ ps bank h xs).cred = h.cred ∧ (moveQ ps bank h xs).lim = h.lim ∧ Near (k + xs.length) (moveQ ps bank h xs)
  | [], h, k, _, hn, _, _ => ⟨fun i _ => by simp [moveQ, outS, toS], fun i j _ _ => by simp [moveQ, toS], rfl, rfl, by simpa [moveQ] using hn⟩
  | x :: r, h, k, hg, hn, h0, hk => by
    obtain ⟨p, hp, ht⟩ := hg x (by simp)
    simp only [List.length_cons] at hk
    obtain ⟨ha, hb, hne, h1, h2⟩ := transfer_spec ht
    have hm := move_at hn (by omega) ht
    have hn' : Near (k + 1) (moveM h bank p.dst p.amt) := by
      rw [hm]
      refine ⟨fun i hi => ?_, fun i j hi hj => ?_⟩
      · have e1 := hn.has i hi
        simp only [up1]
        split
        · rename_i e; subst e; omega
        · split
          · rename_i e; subst e; omega
          · omega
      · have e1 := hn.sent i j hi hj
        simp only [up2]
        split
        · rename_i e; obtain ⟨e2, e3⟩ := e; subst e2; subst e3; omega
        · omega
    obtain ⟨i1, i2, i3, i4, i5⟩ := moveQ_spec ps bank r (moveM h bank p.dst p.amt) (k + 1) (fun i hi => hg i (by simp [hi])) hn' (by omega) (by omega)
    have hq : moveQ ps bank h (x :: r) = moveQ ps bank (moveM h bank p.dst p.amt) r := by simp only [moveQ, hp]
    rw [hq]
    refine ⟨fun i hi => ?_, fun i j hi hj => ?_, ?_, ?_, ?_⟩
    · rw [i1 i hi, hm]
      simp only [up1, outS, toS, amtOf, toOf, hp]
      by_cases e1 : i = p.dst
      · rw [e1]
        have e2 : ¬ p.dst = bank := fun e => hne e.symm
        simp only [e2, if_true, if_false]; omega
      · have e1' : ¬ p.dst = i := fun e => e1 e.symm
        by_cases e2 : i = bank
        · rw [e2]
          rw [e2] at e1 e1'
          simp only [e1, e1', if_true, if_false]; omega
        · simp only [e1, e1', e2, if_false]; omega
    · rw [i2 i j hi hj, hm]
      simp only [up2, toS, toOf, hp]
      by_cases e1 : i = bank
      · rw [e1]
        by_cases e2 : j = p.dst
        · rw [e2]; simp only [and_self, if_true]; omega
        · have e2' : ¬ p.dst = j := fun e => e2 e.symm
          simp only [e2, e2', and_false, if_true, if_false]; omega
      · simp only [e1, false_and, if_false]
    · rw [i3, hm]
    · rw [i4, hm]
    · have : k + ((x :: r).length : Int) = k + 1 + (r.length : Int) := by simp only [List.length_cons]; omega
      rw [this]; exact i5
theorem toOf_nonneg {ps : List PayS} {bank : Int} {xs : List Int} (hg : GoodL ps bank xs) (d : Int) : ∀ i ∈ xs, 0 ≤ toOf ps d i := fun i hi => by
  obtain ⟨p, hp, ht⟩ := hg i hi
  obtain ⟨_, _, _, h1, h2⟩ := transfer_spec ht
  simp only [toOf, hp]
  split <;> omega
theorem toS_take (ps : List PayS) (d : Int) : ∀ (xs : List Int), (∀ i ∈ xs, 0 ≤ toOf ps d i) → ∀ (a b : Nat), a ≤ b → toS ps d (xs.take a) ≤ toS ps d (xs.take b)
  | [], _, a, b, _ => by simp [toS]
  | x :: r, h, a, b, hab => by
    cases a with
    | zero =>
      have : ∀ ys : List Int, (∀ i ∈ ys, 0 ≤ toOf ps d i) → 0 ≤ toS ps d ys := by
        intro ys
        induction ys with
        | nil => intro _; simp [toS]
        | cons y r ih => intro h; have := h y (by simp); have := ih (fun i hi => h i (by simp [hi])); simp only [toS]; omega
      simp only [List.take_zero, toS]
      exact this _ (fun i hi => h i (List.mem_of_mem_take hi))
    | succ a =>
      cases b with
      | zero => omega
      | succ b =>
        simp only [List.take_succ_cons, toS]
        have := toS_take ps d r (fun i hi => h i (by simp [hi])) a b (by omega)
        omega
end Go.Proofs.Ytmkboljfbmlebaa
/- Houses that came back, compared. No condition. -/
namespace Go.Proofs.Ytmkboljfbmlebaa
open Go.RowKit
set_option linter.unusedSimpArgs false
set_option linter.unusedVariables false

theorem outPays {F G F' : Addr → Value → Prop} {h0 h : H} {ps0 ps : List PayS} (hp : PaysIn F h0.pa h0.pl ps0) (hF : More F F') (hG : More G F') (ho : (h.pa = h0.pa ∧ h.pl = h0.pl ∧ ps = ps0) ∨ PaysIn G h.pa h.pl ps) : PaysIn F' h.pa h.pl ps := by
  rcases ho with ⟨h1, h2, rfl⟩ | ho
  · rw [h1, h2]; exact hp.mono hF
  · exact ho.mono hG
theorem same_core {h k : H} {ps : List PayS} (hc : h.core = k.core) (hl : h.pl = k.pl) : sameB h ps k ps = true := by
  have e1 : h.has = k.has := show h.core.has = k.core.has by rw [hc]
  have e2 : h.cred = k.cred := show h.core.cred = k.core.cred by rw [hc]
  have e3 : h.sent = k.sent := show h.core.sent = k.core.sent by rw [hc]
  have e4 : h.lim = k.lim := show h.core.lim = k.core.lim by rw [hc]
  have e5 : h.next = k.next := show h.core.next = k.core.next by rw [hc]
  exact same_of (fun i _ => ⟨by rw [e1], by rw [e2]⟩) (fun i j _ _ => ⟨by rw [e3], by rw [e4]⟩) e5 hl
theorem chainP_len : ∀ (r : List Int) (ps : List PayS), (chainP ps r).length = ps.length
  | [], _ => rfl
  | i :: r, ps => by simp only [chainP]; rw [chainP_len r, settleP_len]
theorem chain_len : ∀ (r : List Int) (c : H) (ps : List PayS), Chain c ps r → r.length ≤ cnt ps
  | [], _, _, _ => by simp
  | i :: r, c, ps, h => by
    obtain ⟨⟨b, _, hf⟩, h2⟩ := h
    obtain ⟨p, _, _, h3, _⟩ := firstM_spec hf
    have := cnt_settle h3
    have := chain_len r _ _ h2
    simp only [List.length_cons]; omega
theorem sweepM_len (c : H) (ps : List PayS) : (sweepM c ps).ps.length = ps.length ∧ (sweepM c ps).xs.length ≤ ps.length := by
  cases hg : goodB c ps
  · simp [sweepM, hg]
  · obtain ⟨h1, h2, h3⟩ := sweepM_goes hg
    refine ⟨by rw [h3, chainP_len], ?_⟩
    have := chain_len _ _ _ h1
    have h4 : cnt ps ≤ ps.length := List.countP_le_length
    omega
section
variable {P : Program} {f : Nat → Value} {l : List Oper} {T : Nat → (Addr → Value → Prop) → Value → Prop} {d : Nat} {op : Op} {ty : TypeId} {pos : String} {af : Array Edge} {C : World → Prop}
theorem ob_passU {j s : Nat} {b : Bool} (hj : (l.toArray[j]?).bind (·.dst) = some s) (hs : ∀ (g : Nat → Value) (w : World), C w → (∀ t ∈ (⟨some d, op, ty, pos, af, some (j, b)⟩ : Oper).looksAt l.toArray, (t ∈ dstsOf l → Tab T t (g t) w) ∧ (t ∉ dstsOf l → g t = f t)) → g s = undef ∧ ∀ w, Tab T d undef w) : Ob P C f l (Tab T) ⟨some d, op, ty, pos, af, some (j, b)⟩ := by
  intro g w hw hl
  obtain ⟨h1, h3⟩ := hs g w hw hl
  have : ¬ Region.wanted ⟨some d, op, ty, pos, af, some (j, b)⟩ (yf l.toArray g) = true := by
    simp only [Region.wanted, yf, hj, h1]
    cases b <;> simp [undef]
  rw [if_neg this]
  intro e he
  simp at he; subst he
  exact h3 w
end
end Go.Proofs.Ytmkboljfbmlebaa
/- Lists of payments put together; what was the call's own, only kept in mind; the little house of 'queues'. No condition. -/
namespace Go.Proofs.Ytmkboljfbmlebaa
open Go.RowKit
set_option linter.unusedSimpArgs false
set_option linter.unusedVariables false

def sliceCells (P : Program) (T : TypeId) (len : Nat) (vs : List (Nat × Value)) : Option (TypeId × Array Value) := match P.underlying T with
  | some (.slice e) => match P.info? e with
    | some i => match i.zero with
      | some z => if len * i.size ≤ 100000 ∧ 0 < len * i.size then (Instr.fill (fun k => some (k * i.size, i.size)) ((Array.range (len * i.size)).map (z.cells[· % z.cells.size]!)) vs).map fun cs => (e, cs) else none
      | none => none
    | none => none
  | _ => none
section
variable {P : Program} {ops : Array Oper} {K : (Nat → Value) → World → Prop} {rest : List Oper} {f : Nat → Value} {d : Nat} {ty : TypeId} {pos : String} {af : Array Edge} {w0 : World} {F : Addr → Value → Prop} {E L : List (Nat × Obj)}
theorem s_buildS {T e len : Nat} {parts : List (Nat × Operand)} {vs : List (Nat × Value)} {cs : Array Value} (hv : parts.map (fun p => (p.1, ev f p.2)) = vs) (h : sliceCells P T len vs = some (e, cs))
    (kk : ∀ b, sC P ops K rest (upd f d (.slice (some ⟨b, 0, none⟩) len len)) (Has w0 F ((b, .cells cs e) :: L))) :
    sC P ops K (⟨some d, .buildSlice T len parts.toArray, ty, pos, af, none⟩ :: rest) f (Has w0 F L) := by
  intro w hw
  unfold sliceCells at h
  split at h
  · rename_i e' hu
    split at h
    · rename_i i hi
      split at h
      · rename_i z hz
        split at h
        · rename_i hb
          cases hfl : Instr.fill (fun k => some (k * i.size, i.size)) ((Array.range (len * i.size)).map (z.cells[· % z.cells.size]!)) vs with
          | none => rw [hfl] at h; cases h
          | some cs' =>
            rw [hfl] at h
            simp at h
            obtain ⟨rfl, rfl⟩ := h
            have hr := run_buildSlice (P := P) w T e' len vs.toArray cs' i z hu hi hz (by omega) (by omega) (by simpa using hfl)
            have e1 : (parts.toArray.map fun p => (p.1, ev f p.2)) = vs.toArray := by simp [hv]
            unfold sw
            rw [if_pos wanted_free]
            unfold opk
            have : (execOp (ev f) ⟨some d, .buildSlice T len parts.toArray, ty, pos, af, none⟩).run P w = .ok (.value (.slice (some ⟨w.heap.size, 0, none⟩) len len)) (w.alloc (.cells cs' e')) := by
              simp only [execOp]
              rw [e1]
              simp [hr]
            rw [this]
            exact kk _ _ (hw.alloc _)
        · cases h
      · cases h
    · cases h
  · cases h
theorem c_forget {n : Nat} {Q : Exit → (Nat → Value) → World → Prop} {y : Code} (h : ∀ F' : Addr → Value → Prop, More F F' → Knows F' E → cC P n y Q f (Has w0 F' L)) : cC P n y Q f (Has w0 F (E ++ L)) := fun w hw => by
  obtain ⟨h1, h2, h3⟩ := hw.forget
  exact h _ h2 h3 w h1
end
theorem cellsOf_flat (ps : List PayS) : CellsOf (flatC ps).toArray ps := fun j p hj k v hv => by simpa using flatC_get ps j p hj k v hv

/-! the house of 'queues': bank 0 has 9 and pays them to 1, who pays 4 of them to 2 -/
def qPays : List PayS := [⟨0, 1, 9, 0, 1, 1⟩, ⟨1, 2, 4, 0, 1, 0⟩]
def qHouse (pa : Option Addr) : H := { newM with has := up1 newM.has 0 9, next := 2, pa := pa, pl := 2, pc := 2 }
def qS0 : QS := ⟨(qHouse none).core, qPays, []⟩
theorem qSweep : sweepM (qHouse none).core qPays = (qS0.go 0).go 1 := by
  have g : goodB (qHouse none).core qPays = true := by kernel_rfl
  simp only [sweepM, g, cond_true]
  have a1 : firstM qS0.c qS0.ps ((0 : Nat) : Int) = some 0 := by kernel_rfl
  have a2 : firstM (qS0.go 0).c (qS0.go 0).ps ((0 : Nat) : Int) = none := by kernel_rfl
  have a3 : firstM (qS0.go 0).c (qS0.go 0).ps ((1 : Nat) : Int) = some 1 := by kernel_rfl
  have b0 : firstM ((qS0.go 0).go 1).c ((qS0.go 0).go 1).ps ((0 : Nat) : Int) = none := by kernel_rfl
  have b1 : firstM ((qS0.go 0).go 1).c ((qS0.go 0).go 1).ps ((1 : Nat) : Int) = none := by kernel_rfl
  have b2 : firstM ((qS0.go 0).go 1).c ((qS0.go 0).go 1).ps ((2 : Nat) : Int) = none := by kernel_rfl
  have b3 : firstM ((qS0.go 0).go 1).c ((qS0.go 0).go 1).ps ((3 : Nat) : Int) = none := by kernel_rfl
  have d1 : drain ((0 : Nat) : Int) qS0 = qS0.go 0 := (drain_go a1).trans (drain_end a2)
  have d2 : drain ((1 : Nat) : Int) (qS0.go 0) = (qS0.go 0).go 1 := (drain_go a3).trans (drain_end b1)
  show sweepFrom 0 0 qS0 = _
  rw [sweep_busy (by decide) d1 (by decide), sweep_busy (by decide) d2 (by decide), sweep_idle (by decide) (drain_end b2) rfl, sweep_idle (by decide) (drain_end b3) rfl, sweep_idle (by decide) (drain_end b0) rfl, sweep_idle (by decide) (drain_end b1) rfl, sweep_end (by decide)]
theorem qSweep_len : (sweepM (qHouse none).core qPays).xs.length = 2 := by rw [qSweep]; rfl
theorem qSweep_has : (sweepM (qHouse none).core qPays).c.has 1 = 5 := by rw [qSweep]; kernel_rfl
theorem qSweep_rest : queueM (sweepM (qHouse none).core qPays).ps 0 = [] := by rw [qSweep]; kernel_rfl
end Go.Proofs.Ytmkboljfbmlebaa
/- Acts as bytes: numbers, sums, frames, and what is read of a text. No condition. -/
namespace Go.Proofs.Ytmkboljfbmlebaa
set_option linter.unusedSimpArgs false
set_option linter.unusedVariables false

structure ActS where
  kind : Int
  a : Int
  b : Int
  c : Int
  n : Int
deriving DecidableEq
def zig (n : Int) : Nat := if n < 0 then (-2 * n - 1).toNat else (2 * n).toNat
def zag (u : Nat) : Int := if u % 2 = 1 then -((u / 2 : Nat) : Int) - 1 else ((u / 2 : Nat) : Int)
theorem zag_zig (n : Int) : zag (zig n) = n := by unfold zag zig; split <;> split <;> omega
def digs (u : Nat) : List Nat := if u < 128 then [u] else (128 + u % 128) :: digs (u / 128)
termination_by u
theorem digs_lo {u : Nat} (h : u < 128) : digs u = [u] := by rw [digs, if_pos h]
theorem digs_hi {u : Nat} (h : ¬ u < 128) : digs u = (128 + u % 128) :: digs (u / 128) := by rw [digs, if_neg h]
theorem digs_byte (u : Nat) : ∀ b ∈ digs u, b < 256 := by
  induction u using Nat.strongRecOn with
  | _ u ih =>
    by_cases h : u < 128
    · rw [digs_lo h]; intro b hb; simp at hb; omega
    · rw [digs_hi h]
      intro b hb
      rcases List.mem_cons.1 hb with rfl | hb
      · omega
      · exact ih (u / 128) (by omega) b hb
theorem digs_len (k : Nat) : ∀ u, u < 128 ^ (k + 1) → (digs u).length ≤ k + 1 := by
  induction k with
  | zero => intro u h; rw [digs_lo (by omega)]; simp
  | succ k ih =>
    intro u h
    by_cases hl : u < 128
    · rw [digs_lo hl]; simp
    · rw [digs_hi hl]
      have := ih (u / 128) (Nat.div_lt_of_lt_mul (by rw [Nat.pow_succ] at h; omega))
      simp only [List.length_cons]; omega
theorem digs_pos (u : Nat) : 1 ≤ (digs u).length := by
  by_cases h : u < 128
  · rw [digs_lo h]; simp
  · rw [digs_hi h]; simp
/-- digits, the least first, up to the first that is the last -/
def undig : Nat → List Nat → Option (Nat × List Nat)
  | 0, _ => none
  | _ + 1, [] => none
  | f + 1, b :: r => if b < 128 then some (b, r) else (undig f r).map fun p => (b - 128 + 128 * p.1, p.2)
theorem undig_digs (f : Nat) : ∀ u r, u < 128 ^ (f + 1) → undig (f + 1) (digs u ++ r) = some (u, r) := by
  induction f with
  | zero => intro u r h; have hl : u < 128 := by omega
            rw [digs_lo hl]; simp [undig, hl]
  | succ f ih =>
    intro u r h
    by_cases hl : u < 128
    · rw [digs_lo hl]; simp [undig, hl]
    · rw [digs_hi hl]
      have := ih (u / 128) r (Nat.div_lt_of_lt_mul (by rw [Nat.pow_succ] at h; omega))
      rw [List.cons_append, undig, if_neg (show ¬ 128 + u % 128 < 128 by omega), this, Option.map_some]
      congr 2
      show 128 + u % 128 - 128 + 128 * (u / 128) = u
      omega
def notedI (n : Int) : Bool := decide (-1073741824 ≤ n) && decide (n ≤ 1073741824)
def noted (x : ActS) : Bool := notedI x.kind && notedI x.a && notedI x.b && notedI x.c && notedI x.n
def bodyOf (x : ActS) : List Nat := digs (zig x.kind) ++ digs (zig x.a) ++ digs (zig x.b) ++ digs (zig x.c) ++ digs (zig x.n)
def sumOf (l : List Nat) : Nat × Nat := l.foldl (fun p b => (p.1 + b, p.2 + (p.1 + b))) (1, 0)
def frameOf (x : ActS) : List Nat := (bodyOf x).length :: (bodyOf x ++ [(sumOf (bodyOf x)).1 % 251, (sumOf (bodyOf x)).2 % 251])
theorem zig_lt {n : Int} (h : notedI n = true) : zig n < 128 ^ 5 := by
  simp [notedI] at h
  unfold zig; split <;> omega
theorem body_len {x : ActS} (h : noted x = true) : 5 ≤ (bodyOf x).length ∧ (bodyOf x).length ≤ 25 := by
  simp only [noted, Bool.and_eq_true] at h
  obtain ⟨⟨⟨⟨h1, h2⟩, h3⟩, h4⟩, h5⟩ := h
  have a1 := digs_len 4 _ (zig_lt h1)
  have a2 := digs_len 4 _ (zig_lt h2)
  have a3 := digs_len 4 _ (zig_lt h3)
  have a4 := digs_len 4 _ (zig_lt h4)
  have a5 := digs_len 4 _ (zig_lt h5)
  have b1 := digs_pos (zig x.kind)
  have b2 := digs_pos (zig x.a)
  have b3 := digs_pos (zig x.b)
  have b4 := digs_pos (zig x.c)
  have b5 := digs_pos (zig x.n)
  simp only [bodyOf, List.length_append]; omega
theorem frame_len (x : ActS) : (frameOf x).length = (bodyOf x).length + 3 := by simp [frameOf]
theorem body_byte (x : ActS) : ∀ b ∈ bodyOf x, b < 256 := by
  intro b hb
  simp only [bodyOf, List.mem_append] at hb
  rcases hb with (((h | h) | h) | h) | h <;> exact digs_byte _ b h
theorem frame_byte {x : ActS} (h : noted x = true) : ∀ b ∈ frameOf x, b < 256 := by
  intro b hb
  have := body_len h
  simp only [frameOf, List.mem_cons, List.mem_append] at hb
  rcases hb with rfl | hb | rfl | rfl | hb
  · omega
  · exact body_byte x b hb
  · omega
  · omega
  · cases hb
/-- the five numbers of a text -/
def parse5 (l : List Nat) : Option (ActS × List Nat) :=
  match undig 7 l with
  | none => none
  | some (u1, l1) => match undig 7 l1 with
    | none => none
    | some (u2, l2) => match undig 7 l2 with
      | none => none
      | some (u3, l3) => match undig 7 l3 with
        | none => none
        | some (u4, l4) => match undig 7 l4 with
          | none => none
          | some (u5, l5) => some (⟨zag u1, zag u2, zag u3, zag u4, zag u5⟩, l5)
theorem zig_lt7 {n : Int} (h : notedI n = true) : zig n < 128 ^ 7 := Nat.lt_of_lt_of_le (zig_lt h) (by decide)
theorem parse_body {x : ActS} (h : noted x = true) (r : List Nat) : parse5 (bodyOf x ++ r) = some (x, r) := by
  simp only [noted, Bool.and_eq_true] at h
  obtain ⟨⟨⟨⟨h1, h2⟩, h3⟩, h4⟩, h5⟩ := h
  simp only [parse5, bodyOf, List.append_assoc]
  rw [undig_digs 6 _ _ (zig_lt7 h1)]
  simp only
  rw [undig_digs 6 _ _ (zig_lt7 h2)]
  simp only
  rw [undig_digs 6 _ _ (zig_lt7 h3)]
  simp only
  rw [undig_digs 6 _ _ (zig_lt7 h4)]
  simp only
  rw [undig_digs 6 _ _ (zig_lt7 h5)]
  simp only [zag_zig]
/-- a frame stands in front of a text -/
def Stands (x : ActS) (l : List Nat) : Prop := noted x = true ∧ frameOf x <+: l
theorem frame_body {x y : ActS} {l : List Nat} (hx : Stands x l) (hy : Stands y l) : x = y := by
  obtain ⟨nx, ⟨r, hr⟩⟩ := hx
  obtain ⟨ny, ⟨s, hs⟩⟩ := hy
  rw [← hs] at hr
  simp only [frameOf, List.cons_append, List.cons.injEq, List.append_assoc] at hr
  have e : bodyOf x ++ ([(sumOf (bodyOf x)).1 % 251, (sumOf (bodyOf x)).2 % 251] ++ r) = bodyOf y ++ ([(sumOf (bodyOf y)).1 % 251, (sumOf (bodyOf y)).2 % 251] ++ s) := by simpa using hr.2
  have h1 := parse_body nx ([(sumOf (bodyOf x)).1 % 251, (sumOf (bodyOf x)).2 % 251] ++ r)
  have h2 := parse_body ny ([(sumOf (bodyOf y)).1 % 251, (sumOf (bodyOf y)).2 % 251] ++ s)
  rw [e, h2] at h1
  simp at h1
  exact h1.1.symm
/-- the act whose frame stands in front, where there is one: the only one that could -/
def first? (l : List Nat) : Option ActS := match l with
  | [] => none
  | k :: r => match parse5 (r.take k) with
    | some (x, []) => if noted x = true ∧ frameOf x <+: l then some x else none
    | _ => none
theorem first_iff (l : List Nat) (x : ActS) : first? l = some x ↔ Stands x l := by
  constructor
  · intro h
    unfold first? at h
    split at h
    · cases h
    · split at h
      · split at h
        · rename_i hh
          simp at h; subst h; exact hh
        · cases h
      · cases h
  · rintro ⟨nx, hp⟩
    obtain ⟨r, hr⟩ := hp
    have hl : l = (bodyOf x).length :: (bodyOf x ++ ([(sumOf (bodyOf x)).1 % 251, (sumOf (bodyOf x)).2 % 251] ++ r)) := by rw [← hr]; simp [frameOf]
    have ht : (bodyOf x ++ ([(sumOf (bodyOf x)).1 % 251, (sumOf (bodyOf x)).2 % 251] ++ r)).take (bodyOf x).length = bodyOf x := List.take_left
    have hpp := parse_body nx []
    rw [List.append_nil] at hpp
    subst hl
    unfold first?
    simp only [ht, hpp]
    rw [if_pos]
    exact ⟨nx, ⟨r, hr⟩⟩
theorem first_none (l : List Nat) : first? l = none ↔ ∀ x, ¬ Stands x l := by
  constructor
  · intro h x hx
    rw [(first_iff l x).2 hx] at h; cases h
  · intro h
    cases hf : first? l with
    | none => rfl
    | some x => exact absurd ((first_iff l x).1 hf) (h x)
/-- what is read of a text -/
def readM (l : List Nat) : List ActS := match h : first? l with
  | none => []
  | some x => x :: readM (l.drop (frameOf x).length)
termination_by l.length
decreasing_by
  have hs := ((first_iff l x).1 h).2.length_le
  have := frame_len x
  simp only [List.length_drop]
  omega
theorem readM_none {l : List Nat} (h : first? l = none) : readM l = [] := by
  rw [readM]
  split
  · rfl
  · rename_i x hx; rw [h] at hx; cases hx
theorem readM_some {l : List Nat} {x : ActS} (h : first? l = some x) : readM l = x :: readM (l.drop (frameOf x).length) := by
  rw [readM]
  split
  · rename_i hx; rw [h] at hx; cases hx
  · rename_i y hy; rw [h] at hy; simp at hy; subst hy; rfl
def bytesOf (xs : List ActS) : List Nat := xs.flatMap frameOf
theorem readM_bytes (l : List Nat) : bytesOf (readM l) <+: l ∧ ∀ x ∈ readM l, noted x = true := by
  generalize hn : l.length = n
  induction n using Nat.strongRecOn generalizing l with
  | _ n ih =>
    cases h : first? l with
    | none => rw [readM_none h]; exact ⟨by simp [bytesOf], by simp⟩
    | some x =>
      rw [readM_some h]
      obtain ⟨nx, r, hr⟩ := (first_iff l x).1 h
      have hfl := frame_len x
      have e : l.drop (frameOf x).length = r := by rw [← hr]; exact List.drop_left
      rw [e]
      have hlen : l.length = (frameOf x).length + r.length := by rw [← hr]; simp
      obtain ⟨h1, h2⟩ := ih r.length (by omega) r rfl
      refine ⟨?_, fun y hy => ?_⟩
      · obtain ⟨s, hs⟩ := h1
        exact ⟨s, by
          show frameOf x ++ bytesOf (readM r) ++ s = l
          rw [List.append_assoc, hs, hr]⟩
      · rcases List.mem_cons.1 hy with rfl | hy
        · exact nx
        · exact h2 y hy
/-- what was written is read, up to where it is cut -/
theorem first_frame {x : ActS} (h : noted x = true) (r : List Nat) : first? (frameOf x ++ r) = some x := (first_iff _ x).2 ⟨h, r, rfl⟩
theorem first_cut {x : ActS} (h : noted x = true) {l : List Nat} (hl : l <+: frameOf x) (hlt : l.length < (frameOf x).length) : first? l = none := by
  rw [first_none]
  rintro y ⟨ny, s, hs⟩
  obtain ⟨r, hr⟩ := hl
  rw [← hs] at hr
  have h1 : (bodyOf y).length = (bodyOf x).length := by
    simp only [frameOf, List.cons_append, List.cons.injEq] at hr
    exact hr.1
  have h2 := frame_len x
  have h3 := frame_len y
  have h4 : l.length = (frameOf y).length + s.length := by rw [← hs]; simp
  omega
theorem readM_frame {x : ActS} (h : noted x = true) (r : List Nat) : readM (frameOf x ++ r) = x :: readM r := by
  rw [readM_some (first_frame h r)]
  congr 2
  exact List.drop_left
theorem readM_cut {x : ActS} (h : noted x = true) {l : List Nat} (hl : l <+: frameOf x) (hlt : l.length < (frameOf x).length) : readM l = [] := readM_none (first_cut h hl hlt)
theorem readM_all : ∀ (xs : List ActS), (∀ x ∈ xs, noted x = true) → ∀ l, (∀ y, ¬ Stands y l) → readM (bytesOf xs ++ l) = xs
  | [], _, l, hl => by simpa [bytesOf] using readM_none ((first_none l).2 hl)
  | x :: r, h, l, hl => by
    have e : bytesOf (x :: r) ++ l = frameOf x ++ (bytesOf r ++ l) := by simp [bytesOf]
    rw [e, readM_frame (h x (by simp)), readM_all r (fun y hy => h y (by simp [hy])) l hl]
theorem readM_self {xs : List ActS} (h : ∀ x ∈ xs, noted x = true) : readM (bytesOf xs) = xs := by
  have := readM_all xs h [] (fun y hy => by
    have h1 : (frameOf y).length ≤ 0 := hy.2.length_le
    have := frame_len y
    omega)
  rwa [List.append_nil] at this
/-- cut anywhere: the frames that are whole -/
def wholes : List ActS → Nat → List ActS
  | [], _ => []
  | x :: r, cut => if (frameOf x).length ≤ cut then x :: wholes r (cut - (frameOf x).length) else []
theorem readM_take : ∀ (xs : List ActS), (∀ x ∈ xs, noted x = true) → ∀ cut, readM ((bytesOf xs).take cut) = wholes xs cut
  | [], _, cut => by simp [bytesOf, wholes]; exact readM_none (by rfl)
  | x :: r, h, cut => by
    have hx := h x (by simp)
    have e : bytesOf (x :: r) = frameOf x ++ bytesOf r := by simp [bytesOf]
    rw [e, wholes]
    by_cases hc : (frameOf x).length ≤ cut
    · rw [if_pos hc, List.take_append, List.take_of_length_le hc, readM_frame hx, readM_take r (fun y hy => h y (by simp [hy]))]
    · rw [if_neg hc, List.take_append, show cut - (frameOf x).length = 0 by omega, List.take_zero, List.append_nil]
      exact readM_cut hx (List.take_prefix _ _) (by rw [List.length_take]; omega)
end Go.Proofs.Ytmkboljfbmlebaa
/- Texts as lists of bytes: put together, cut, looked into, made of bytes and taken apart; rows of four numbers and acts that come in as arguments. No condition. -/
namespace Go.Proofs.Ytmkboljfbmlebaa
open Go.RowKit
set_option linter.unusedSimpArgs false
set_option linter.unusedVariables false

def bs (l : List Nat) : ByteArray := ⟨(l.map UInt8.ofNat).toArray⟩
abbrev S (l : List Nat) : Value := .string (bs l)
abbrev U8 (n : Int) : Value := .int .u8 n
def Byt (l : List Nat) : Prop := ∀ b ∈ l, b < 256
theorem bs_size (l : List Nat) : (bs l).size = l.length := by simp [bs, ByteArray.size]
theorem bs_append (l m : List Nat) : bs (l ++ m) = bs l ++ bs m := by
  apply ByteArray.ext
  simp [bs, ByteArray.data_append]
theorem bs_toList (l : List Nat) : (bs l).toList = l.map UInt8.ofNat := by unfold bs; rw [ByteArray.toList_mk]
theorem u8_inj {a b : Nat} (ha : a < 256) (hb : b < 256) (h : UInt8.ofNat a = UInt8.ofNat b) : a = b := by
  have := congrArg UInt8.toNat h
  simp [UInt8.toNat_ofNat] at this
  omega
theorem map_u8_inj : ∀ {l m : List Nat}, Byt l → Byt m → l.map UInt8.ofNat = m.map UInt8.ofNat → l = m
  | [], [], _, _, _ => rfl
  | [], _ :: _, _, _, h => by simp at h
  | _ :: _, [], _, _, h => by simp at h
  | a :: l, b :: m, hl, hm, h => by
    simp only [List.map_cons, List.cons.injEq] at h
    rw [u8_inj (hl a (by simp)) (hm b (by simp)) h.1, map_u8_inj (fun x hx => hl x (by simp [hx])) (fun x hx => hm x (by simp [hx])) h.2]
theorem bs_inj {l m : List Nat} (hl : Byt l) (hm : Byt m) : bs l = bs m ↔ l = m :=
  ⟨fun h => map_u8_inj hl hm (by have := congrArg ByteArray.toList h; rwa [bs_toList, bs_toList] at this), fun h => by rw [h]⟩
theorem bs_of (s : ByteArray) : ∃ l, Byt l ∧ s = bs l := by
  refine ⟨s.data.toList.map UInt8.toNat, fun b hb => ?_, ?_⟩
  · obtain ⟨x, _, rfl⟩ := List.mem_map.1 hb
    exact x.toNat_lt
  · apply ByteArray.ext
    have e : (UInt8.ofNat ∘ UInt8.toNat) = id := funext fun x => by simp
    simp [bs, e]
theorem bs_get {l : List Nat} {i b : Nat} (h : l[i]? = some b) (hb : b < 256) : ∃ hi : i < (bs l).size, ((bs l)[i]'hi).toNat = b := by
  obtain ⟨hi, e⟩ := List.getElem?_eq_some_iff.1 h
  refine ⟨by rw [bs_size]; exact hi, ?_⟩
  show ((l.map UInt8.ofNat).toArray[i]'(by simpa using hi)).toNat = b
  simp [e]
  omega
theorem bs_extract (l : List Nat) (i j : Nat) : (bs l).extract i j = bs ((l.take j).drop i) := by
  apply ByteArray.ext
  simp only [ByteArray.data_extract, bs]
  apply Array.ext_getElem?
  intro k
  simp only [Array.getElem?_extract, List.size_toArray, List.length_map, List.getElem?_toArray, List.getElem?_map, List.getElem?_drop, List.getElem?_take]
  by_cases h1 : k < min j l.length - i
  · rw [if_pos h1, if_pos (by omega)]
  · rw [if_neg h1]
    by_cases h2 : i + k < j
    · rw [if_pos h2, List.getElem?_eq_none (by omega)]; rfl
    · rw [if_neg h2]; rfl
theorem Byt.drop {l : List Nat} (h : Byt l) (n : Nat) : Byt (l.drop n) := fun b hb => h b (List.mem_of_mem_drop hb)
theorem Byt.take {l : List Nat} (h : Byt l) (n : Nat) : Byt (l.take n) := fun b hb => h b (List.mem_of_mem_take hb)
theorem Byt.append {l m : List Nat} (h : Byt l) (h' : Byt m) : Byt (l ++ m) := fun b hb => (List.mem_append.1 hb).elim (h b) (h' b)
theorem byt_nil : Byt [] := fun b hb => by cases hb

def strB (P : Program) (T : TypeId) : Bool := match P.underlying T with
  | some .string => true
  | _ => false
theorem strB_spec {P : Program} {T : TypeId} (h : strB P T = true) : P.underlying T = some .string := by
  unfold strB at h
  split at h
  · assumption
  · cases h
def bytesB (P : Program) (T : TypeId) : Bool := match P.underlying T with
  | some (.slice e) => (match P.underlying e with | some (.int .u8) => true | _ => false)
  | _ => false
theorem bytesB_spec {P : Program} {T : TypeId} (h : bytesB P T = true) : ∃ e, P.underlying T = some (.slice e) ∧ P.underlying e = some (.int .u8) := by
  unfold bytesB at h
  split at h
  · rename_i e hu
    split at h
    · rename_i he; exact ⟨e, hu, he⟩
    · cases h
  · cases h
def kindB (P : Program) (S T : TypeId) (k : IntKind) : Bool := (P.underlying S).isSome && (match P.underlying T with | some (.int k') => decide (k' = k) | _ => false)
section
variable {P : Program} {f : Nat → Value} {C : World → Prop} {dst : Option Nat} {ty : TypeId} {pos : String} {af : Array Edge} {gd : Option (Nat × Bool)}
theorem v_convK {x : Operand} {Sx T : TypeId} {k k' : IntKind} {n : Int} (hT : kindB P Sx T k = true) (hx : ev f x = .int k' n) : Val P f C ⟨dst, .convert Sx T x, ty, pos, af, gd⟩ (.int k (k.wrap n)) := by
  refine ⟨fun w _ => ?_⟩
  unfold kindB at hT
  simp only [Bool.and_eq_true] at hT
  obtain ⟨h1, h2⟩ := hT
  split at h2
  · rename_i k2 hu
    have e := of_decide_eq_true h2
    subst e
    have hk : P.intKind T = k2 := by simp [Program.intKind, hu]
    have := run_convert_int (P := P) w Sx T k' n h1 (by rw [hk]; exact hu)
    simp [execOp, hx, this, hk]
  · cases h2
theorem u8_wrap {n : Int} (h : 0 ≤ n ∧ n < 256) : IntKind.u8.wrap n = n := by
  simp [IntKind.wrap, IntKind.bits, IntKind.signed]; omega
theorem v_toU8 {x : Operand} {Sx T : TypeId} {n : Int} (hT : kindB P Sx T .u8 = true) (hx : ev f x = I n) (h : 0 ≤ n ∧ n < 256) : Val P f C ⟨dst, .convert Sx T x, ty, pos, af, gd⟩ (U8 n) := by
  have := v_convK (P := P) (f := f) (C := C) (dst := dst) (ty := ty) (pos := pos) (af := af) (gd := gd) (k := .u8) hT hx
  rwa [u8_wrap h] at this
theorem v_ofU8 {x : Operand} {Sx T : TypeId} {n : Int} (hT : kindB P Sx T .i64 = true) (hx : ev f x = U8 n) (h : 0 ≤ n ∧ n < 256) : Val P f C ⟨dst, .convert Sx T x, ty, pos, af, gd⟩ (I n) := by
  have := v_convK (P := P) (f := f) (C := C) (dst := dst) (ty := ty) (pos := pos) (af := af) (gd := gd) (k := .i64) hT hx
  rwa [show IntKind.i64.wrap n = n from wr_in (by omega) (by omega)] at this
theorem v_u8geq {x y : Operand} {t t' : TypeId} {a b : Int} (hx : ev f x = U8 a) (hy : ev f y = U8 b) : Val P f C ⟨dst, .binOp .geq t x y t', ty, pos, af, gd⟩ (.bool (decide (b ≤ a))) := v_geq hx hy
theorem v_u8sub {x y : Operand} {t t' : TypeId} {a b : Int} (hx : ev f x = U8 a) (hy : ev f y = U8 b) (h : 0 ≤ a - b ∧ a - b < 256) : Val P f C ⟨dst, .binOp .sub t x y t', ty, pos, af, gd⟩ (U8 (a - b)) := by
  have := v_subk (P := P) (f := f) (C := C) (dst := dst) (ty := ty) (pos := pos) (af := af) (gd := gd) (t := t) (t' := t') hx hy
  rwa [u8_wrap h] at this
theorem v_strAdd {x y : Operand} {t t' : TypeId} {a b : List Nat} (hx : ev f x = S a) (hy : ev f y = S b) (h : a.length + b.length ≤ 9223372036854775807) : Val P f C ⟨dst, .binOp .add t x y t', ty, pos, af, gd⟩ (S (a ++ b)) := by
  refine ⟨fun w _ => ?_⟩
  have := run_string_add_sum (P := P) (w := w) (bs a) (bs b) (by rw [bs_size, bs_size]; exact h)
  rw [← bs_append] at this
  simp [execOp, hx, hy, eqGuard, binOp, this]
theorem v_strEq {x y : Operand} {t t' : TypeId} {a b : List Nat} (hx : ev f x = S a) (hy : ev f y = S b) (ha : Byt a) (hb : Byt b) : Val P f C ⟨dst, .binOp .eql t x y t', ty, pos, af, gd⟩ (.bool (decide (a = b))) := by
  refine ⟨fun w _ => ?_⟩
  have e : ((bs a).toList == (bs b).toList) = decide (a = b) := by
    rw [bs_toList, bs_toList, Bool.eq_iff_iff, beq_iff_eq, decide_eq_true_iff]
    exact ⟨map_u8_inj ha hb, fun h => by rw [h]⟩
  simp [execOp, hx, hy, eqGuard, binOp, Op.stringOp, e]
theorem v_strNe {x y : Operand} {t t' : TypeId} {a b : List Nat} (hx : ev f x = S a) (hy : ev f y = S b) (ha : Byt a) (hb : Byt b) : Val P f C ⟨dst, .binOp .neq t x y t', ty, pos, af, gd⟩ (.bool (!decide (a = b))) := by
  refine ⟨fun w _ => ?_⟩
  have e : ((bs a).toList == (bs b).toList) = decide (a = b) := by
    rw [bs_toList, bs_toList, Bool.eq_iff_iff, beq_iff_eq, decide_eq_true_iff]
    exact ⟨map_u8_inj ha hb, fun h => by rw [h]⟩
  simp [execOp, hx, hy, eqGuard, binOp, Op.stringOp, e]
theorem v_strLen {x : Operand} {T : TypeId} {ats : Array TypeId} {a : List Nat} (hT : strB P T = true) (ha : ats = #[T]) (hx : ev f x = S a) : Val P f C ⟨dst, .call ⟨.builtin .len, #[x], ats⟩, ty, pos, af, gd⟩ (I a.length) := by
  refine ⟨fun w _ => ?_⟩
  subst ha
  have := run_len_string (P := P) w T ty (bs a) (strB_spec hT)
  simp [execOp, resolve, invoke, builtin, hx, this, bs_size, goInt]
theorem v_strIdx {x y : Operand} {T : TypeId} {k : IntKind} {a : List Nat} {i : Int} {b : Nat} (hT : strB P T = true) (hx : ev f x = S a) (hy : ev f y = .int k i) (h0 : 0 ≤ i) (hi : a[i.toNat]? = some b) (hb : b < 256) : Val P f C ⟨dst, .index T x y, ty, pos, af, gd⟩ (U8 b) := by
  refine ⟨fun w _ => ?_⟩
  obtain ⟨hlt, e⟩ := bs_get hi hb
  have := run_index_string (P := P) w T (bs a) k i (strB_spec hT)
  rw [dif_pos ⟨h0, by omega⟩] at this
  simp [execOp, hx, hy, this, e]
theorem v_strLo {x y : Operand} {T : TypeId} {k : IntKind} {a : List Nat} {i : Int} (hT : strB P T = true) (hx : ev f x = S a) (hy : ev f y = .int k i) (hi : 0 ≤ i ∧ i ≤ a.length) : Val P f C ⟨dst, .slice T x (some y) none none, ty, pos, af, gd⟩ (S (a.drop i.toNat)) := by
  refine ⟨fun w _ => ?_⟩
  have := run_slice_string_from_if (P := P) w T (bs a) k i (strB_spec hT)
  rw [if_pos ⟨hi.1, by rw [bs_size]; exact hi.2⟩, bs_size, bs_extract, List.take_of_length_le (Nat.le_refl _)] at this
  simp [execOp, hx, hy, Instr.sliceAt, run_underlying (strB_spec hT), this]
theorem v_strHi {x y : Operand} {T : TypeId} {k : IntKind} {a : List Nat} {i : Int} (hT : strB P T = true) (hx : ev f x = S a) (hy : ev f y = .int k i) (hi : 0 ≤ i ∧ i ≤ a.length) : Val P f C ⟨dst, .slice T x none (some y) none, ty, pos, af, gd⟩ (S (a.take i.toNat)) := by
  refine ⟨fun w _ => ?_⟩
  have := run_slice_string_to_if (P := P) w T (bs a) k i (strB_spec hT)
  rw [if_pos ⟨hi.1, by rw [bs_size]; exact hi.2⟩, bs_extract, List.drop_zero] at this
  simp [execOp, hx, hy, Instr.sliceAt, run_underlying (strB_spec hT), this]
/-- bytes that stand in memory, as a text -/
theorem run_strOf {w : World} {Sx T : TypeId} {b o c : Nat} {l : List Nat} (hS : bytesB P Sx = true) (hT : strB P T = true) (hb : Byt l) (hc : ∀ j n : Nat, l[j]? = some n → w.cell? ⟨b, o + j, none⟩ = some (U8 n)) :
    (convert Sx T (.slice (some ⟨b, o, none⟩) l.length c)).run P w = .ok (S l) w := by
  obtain ⟨e, h1, h2⟩ := bytesB_spec hS
  have := run_convert_bytes_back (P := P) w Sx T e ⟨b, o, none⟩ c (l.map UInt8.ofNat) h1 h2 (strB_spec hT) (fun j hj => by
    have hj' : j < l.length := by simpa using hj
    rw [add_off, hc j l[j] (by simp [hj'])]
    have := hb l[j] (List.getElem_mem hj')
    simp
    omega)
  rw [List.length_map] at this
  exact this
variable {ops : Array Oper} {K : (Nat → Value) → World → Prop} {rest : List Oper} {d : Nat} {w0 : World} {F : Addr → Value → Prop} {L : List (Nat × Obj)}
theorem v_strOf {x : Operand} {Sx T b c t : Nat} {fr : Nat × Nat} {cs : Array Value} {n : Nat} {l : List Nat} (hS : bytesB P Sx = true) (hT : strB P T = true) (hx : ev f x = .slice (some ⟨b, 0, none⟩) n c) (hn : n = l.length) (hl : Look L b (.cells cs t fr)) (hb : Byt l) (hc : ∀ j m : Nat, l[j]? = some m → cs[j]? = some (U8 m)) :
    Val P f (Has w0 F L) ⟨dst, .convert Sx T x, ty, pos, af, gd⟩ (S l) := by
  refine ⟨fun w hw => ?_⟩
  subst hn
  have := run_strOf (P := P) (w := w) (b := b) (o := 0) (c := c) hS hT hb (fun j m hj => by rw [Nat.zero_add, cell_has hw hl]; exact hc j m hj)
  simp [execOp, hx, this]
/-- a text as bytes of the call's own -/
theorem s_bytesOf {x : Operand} {Sx T : TypeId} {l : List Nat} (hS : strB P Sx = true) (hT : bytesB P T = true) (hx : ev f x = S l) (hb : Byt l)
    (kk : ∀ (b c : Nat) (cs : Array Value) (e : TypeId) (fr : Nat × Nat), l.length ≤ c → (∀ (j m : Nat), l[j]? = some m → cs[j]? = some (U8 m)) → sC P ops K rest (upd f d (.slice (some ⟨b, 0, none⟩) l.length c)) (Has w0 F ((b, .cells cs e fr) :: L))) :
    sC P ops K (⟨some d, .convert Sx T x, ty, pos, af, none⟩ :: rest) f (Has w0 F L) := by
  intro w hw
  obtain ⟨e, h1, h2⟩ := bytesB_spec hT
  have := run_bytes_of_string (P := P) w Sx T e (bs l) (strB_spec hS) h1 h2
  unfold sw
  rw [if_pos wanted_free]
  unfold opk
  have hr : ∀ v w', (convert Sx T (.string (bs l))).run P w = .ok v w' → (execOp (ev f) ⟨some d, .convert Sx T x, ty, pos, af, none⟩).run P w = .ok (.value v) w' := fun v w' h => by
    simp [execOp, hx, h]
  rw [hr _ _ this, bs_size]
  refine kk _ _ _ _ _ (grownCap_ge w _ _ _) (fun j m hj => ?_) _ (hw.drew.alloc _)
  obtain ⟨hjl, e'⟩ := List.getElem?_eq_some_iff.1 hj
  have hm := hb m (by rw [← e']; exact List.getElem_mem hjl)
  unfold bytesRow
  rw [Array.getElem?_append_left (by simp [bs, hjl])]
  simp [bs, hjl, e']
  omega
/-- a function with two results in slots -/
theorem n_doneT {fn : Func} {n t t2 : Nat} {v : Value} (hr : fn.results = #[.tmp t, .tmp t2]) (ht : t < n) (ht2 : t2 < n) (hv : .tuple #[f t, f t2] = v) :
    nC (retQ P fn n (fun v' w' => v' = v ∧ Bel w0.heap.size w0 w')) .ret f (Has w0 F L) := fun w hw => by
  refine ⟨.tuple #[f t, f t2], ?_, hv, hw.1⟩
  have e : (Fa n f).tmps[t]?.getD undef = f t := by simp [Fa, ht]
  have e2 : (Fa n f).tmps[t2]?.getD undef = f t2 := by simp [Fa, ht2]
  simp [results, hr, e, e2]
theorem n_doneTF {fn : Func} {n t t2 : Nat} {R : (Addr → Value → Prop) → Value → Prop} (hr : fn.results = #[.tmp t, .tmp t2]) (ht : t < n) (ht2 : t2 < n) (hv : ∀ w, Has w0 F L w → R (Fresh w0 w) (.tuple #[f t, f t2])) :
    nC (retQ P fn n (fun v w' => Bel w0.heap.size w0 w' ∧ R (Fresh w0 w') v)) .ret f (Has w0 F L) := fun w hw => by
  refine ⟨.tuple #[f t, f t2], ?_, hw.1, hv w hw⟩
  have e : (Fa n f).tmps[t]?.getD undef = f t := by simp [Fa, ht]
  have e2 : (Fa n f).tmps[t2]?.getD undef = f t2 := by simp [Fa, ht2]
  simp [results, hr, e, e2]
end
/-! acts -/
def ActS.cells (x : ActS) : Array Value := #[I x.kind, I x.a, I x.b, I x.c, I x.n]
theorem ActS.size (x : ActS) : x.cells.size = 5 := rfl
theorem ActS.all1 (x : ActS) : x.cells.all (·.oneCell') = true := by simp [ActS.cells, Value.oneCell']
theorem fill_one {v : Value} {m : Nat} (hs : v.cells.size = m) (z : Array Value) (hz : z.size = m) : Instr.fill (fun i => some (i * m, m)) ((Array.range (1 * m)).map (z[· % z.size]!)) [(0, v)] = some v.cells := by
  have hsz : ((Array.range (1 * m)).map (z[· % z.size]!)).size = m := by simp
  generalize (Array.range (1 * m)).map (z[· % z.size]!) = cs at hsz
  simp only [Instr.fill, Nat.zero_mul, Nat.zero_add]
  rw [if_neg (by simp [hs, hsz])]
  congr 1
  have key : ∀ (l : List Value) (k : Nat) (a : Array Value), ((l.zipIdx k).foldl (fun cs (p : Value × Nat) => cs.setIfInBounds p.2 p.1) a).size = a.size ∧ ∀ j, ((l.zipIdx k).foldl (fun cs (p : Value × Nat) => cs.setIfInBounds p.2 p.1) a)[j]? = if k ≤ j ∧ j < k + l.length ∧ j < a.size then l[j - k]? else a[j]? := by
    intro l
    induction l with
    | nil => intro k a; exact ⟨rfl, fun j => by rw [if_neg (by simp; omega)]; rfl⟩
    | cons x r ih =>
      intro k a
      simp only [List.zipIdx_cons, List.foldl_cons]
      obtain ⟨h1, h2⟩ := ih (k + 1) (a.setIfInBounds k x)
      refine ⟨by rw [h1]; simp, fun j => ?_⟩
      rw [h2 j]
      simp only [Array.size_setIfInBounds, List.length_cons]
      by_cases hj : j = k
      · subst hj
        rw [if_neg (by omega)]
        by_cases hlt : j < a.size
        · rw [if_pos ⟨by omega, by omega, hlt⟩]; simp [hlt]
        · rw [if_neg (by omega)]; simp [hlt]
      · by_cases hc : k + 1 ≤ j ∧ j < k + 1 + r.length ∧ j < a.size
        · rw [if_pos hc, if_pos ⟨by omega, by omega, hc.2.2⟩, show j - k = (j - (k + 1)) + 1 by omega, List.getElem?_cons_succ]
        · rw [if_neg hc, if_neg (by omega), Array.getElem?_setIfInBounds_ne (Ne.symm hj)]
  have := key v.cells.toList 0 cs
  have e : v.cells.zipIdx.foldl (fun cs (p : Value × Nat) => cs.setIfInBounds (0 + p.2) p.1) cs = (v.cells.toList.zipIdx 0).foldl (fun cs (p : Value × Nat) => cs.setIfInBounds p.2 p.1) cs := by
    rw [← Array.foldl_toList]
    simp
  simp only [Nat.zero_add] at e
  rw [e]
  apply Array.ext_getElem?
  intro j
  rw [this.2 j]
  by_cases hj : j < m
  · rw [if_pos ⟨by omega, by simp [hs]; exact hj, by omega⟩]; simp
  · rw [if_neg (by simp [hs]; omega), Array.getElem?_eq_none (by omega), Array.getElem?_eq_none (by omega)]
end Go.Proofs.Ytmkboljfbmlebaa
/- Sums of bytes, step by step; numbers as digits, taken one by one. No condition. -/
namespace Go.Proofs.Ytmkboljfbmlebaa
open Go.RowKit
set_option linter.unusedSimpArgs false
set_option linter.unusedVariables false

theorem sum_snoc (l : List Nat) (b : Nat) : sumOf (l ++ [b]) = ((sumOf l).1 + b, (sumOf l).2 + ((sumOf l).1 + b)) := by simp [sumOf, List.foldl_append]
theorem sum_step {l : List Nat} {k b : Nat} (h : l[k]? = some b) : sumOf (l.take (k + 1)) = ((sumOf (l.take k)).1 + b, (sumOf (l.take k)).2 + ((sumOf (l.take k)).1 + b)) := by
  rw [List.take_add_one, h]
  exact sum_snoc _ b
theorem sum_bound {l : List Nat} (hb : Byt l) : ∀ k, (sumOf (l.take k)).1 ≤ 1 + 255 * k ∧ (sumOf (l.take k)).2 ≤ k * (1 + 255 * k)
  | 0 => by simp [sumOf]
  | k + 1 => by
    have ih := sum_bound hb k
    cases h : l[k]? with
    | none =>
      rw [List.take_add_one, h]
      simp only [Option.toList_none, List.append_nil]
      refine ⟨by omega, Nat.le_trans ih.2 ?_⟩
      exact Nat.mul_le_mul (by omega) (by omega)
    | some b =>
      have hb' := hb b (List.mem_of_getElem? h)
      rw [sum_step h]
      refine ⟨by simp only; omega, ?_⟩
      simp only
      have e : (k + 1) * (1 + 255 * (k + 1)) = k * (1 + 255 * k) + k * 255 + (1 + 255 * (k + 1)) := by
        rw [Nat.add_mul, Nat.one_mul, show 1 + 255 * (k + 1) = (1 + 255 * k) + 255 by omega, Nat.mul_add]
      omega
theorem tmod_nat (a b : Nat) : ((a : Int)).tmod (b : Int) = ((a % b : Nat) : Int) := by rw [Int.tmod_eq_emod_of_nonneg (by omega)]; omega
theorem tdiv_nat (a b : Nat) : ((a : Int)).tdiv (b : Int) = ((a / b : Nat) : Int) := by rw [Int.tdiv_eq_ediv_of_nonneg (by omega)]; omega
theorem byt_two {a b : Nat} (ha : a < 256) (hb : b < 256) : Byt [a, b] := fun x hx => by simp at hx; omega
theorem byt_one {a : Nat} (ha : a < 256) : Byt [a] := fun x hx => by simp at hx; omega
theorem cells_one (a : Nat) : ∀ j m : Nat, [a][j]? = some m → (#[U8 (a : Int)] : Array Value)[j]? = some (U8 m) := by
  intro j m h
  cases j with
  | zero => simp at h; subst h; rfl
  | succ j => simp at h
theorem cells_two (a b : Nat) : ∀ j m : Nat, [a, b][j]? = some m → (#[U8 (a : Int), U8 (b : Int)] : Array Value)[j]? = some (U8 m) := by
  intro j m h
  match j with
  | 0 => simp at h; subst h; rfl
  | 1 => simp at h; subst h; rfl
  | j + 2 => simp at h
theorem zig_neg {n : Int} (h : n < 0) : -2 * n - 1 = ((zig n : Nat) : Int) := by unfold zig; rw [if_pos h]; omega
theorem zig_pos {n : Int} (h : ¬ n < 0) : 2 * n = ((zig n : Nat) : Int) := by unfold zig; rw [if_neg h]; omega
theorem notedI_iff {n : Int} : notedI n = true ↔ -1073741824 ≤ n ∧ n ≤ 1073741824 := by simp [notedI]
theorem noted_all {x : ActS} (h : noted x = true) : notedI x.kind = true ∧ notedI x.a = true ∧ notedI x.b = true ∧ notedI x.c = true ∧ notedI x.n = true := by
  simp only [noted, Bool.and_eq_true] at h
  exact ⟨h.1.1.1.1, h.1.1.1.2, h.1.1.2, h.1.2, h.2⟩
theorem digs_len5 {n : Int} (h : notedI n = true) : (digs (zig n)).length ≤ 5 := digs_len 4 _ (zig_lt h)
end Go.Proofs.Ytmkboljfbmlebaa
/- Steps of a region that draws its order: a byte made a list, and a list of one byte made a text. No condition. -/
namespace Go.Proofs.Ytmkboljfbmlebaa
open Go.RowKit
set_option linter.unusedSimpArgs false
set_option linter.unusedVariables false

def Byte1 (n : Nat) : (Addr → Value → Prop) → Value → Prop := fun F v => ∃ b, v = .slice (some ⟨b, 0, none⟩) 1 1 ∧ F ⟨b, 0, none⟩ (U8 n)
theorem byte1_mono (n : Nat) : Mono (Byte1 n) := by
  rintro F F' v hm ⟨b, h1, h2⟩
  exact ⟨b, h1, hm _ _ h2⟩
section
variable {P : Program} {T : Nat → (Addr → Value → Prop) → Value → Prop} {d : Nat} {ty : TypeId} {pos : String} {af : Array Edge} {gd : Option (Nat × Bool)} {g : Nat → Value} {w : World}
theorem x_build1 {Ts e by_ : Nat} {x : Operand} {n : Nat} (hT : rowB P Ts e 1 by_ = true) (hx : ev g x = U8 n) (ht : ∀ w' v, Byte1 n (At w') v → T d (At w') v) : Ox P T d (.buildSlice Ts 1 #[(0, x)]) ty pos af gd g w := by
  obtain ⟨i, z, hu, hi, h1, h2, h3, h4⟩ := rowB_spec hT
  have hr0 : (Instr.buildSlice Ts 1 #[(0, U8 n)]).run P w = .ok (.slice (some ⟨w.heap.size, 0, none⟩) 1 1) (w.alloc (.cells #[U8 n] e)) := by
    have hz : Instr.fill (fun i => some (i * 1, 1)) ((Array.range (1 * 1)).map (z.cells[· % z.cells.size]!)) [(0, U8 n)] = some #[U8 n] := fill_scalar (v := U8 n) rfl z.cells h4
    simp [Instr.buildSlice, run_underlying hu, sizeOf, typeInfo, zeroValue, hi, h3, newRow, h1]
    simp only [Nat.one_mul] at hz
    have hz' : Instr.fill (fun i => some (i, 1)) (Array.map (fun x => z.cells[x % z.cells.size]!) (Array.range 1)) [(0, U8 ↑n)] = some #[U8 ↑n] := by simpa using hz
    simp [hz']
  unfold Ox opk
  have hr : (execOp (ev g) ⟨some d, .buildSlice Ts 1 #[(0, x)], ty, pos, af, gd⟩).run P w = .ok (.value (.slice (some ⟨w.heap.size, 0, none⟩) 1 1)) (w.alloc (.cells #[U8 n] e)) := by
    simp [execOp, hx, hr0]
  rw [hr]
  refine ⟨_, rfl, (Bel.refl _ _).alloc (Nat.le_refl _) _, fun e' he => ?_⟩
  simp at he; subst he
  refine ht _ _ ⟨w.heap.size, rfl, ?_⟩
  have hh : (w.alloc (.cells #[U8 n] e)).heap[w.heap.size]? = some (.cells #[U8 n] e (0, 0)) := by
    show (w.heap.push _)[w.heap.size]? = _
    simp
  show (w.alloc (.cells #[U8 n] e)).cell? ⟨w.heap.size, 0, none⟩ = _
  rw [cell_of_row _ _ 0 #[U8 n] e (0, 0) hh]
  rfl
theorem x_strOf {Sx Tx b n : Nat} {x : Operand} (hS : bytesB P Sx = true) (hT : strB P Tx = true) (hn : n < 256) (hx : ev g x = .slice (some ⟨b, 0, none⟩) 1 1) (hc : At w ⟨b, 0, none⟩ (U8 n)) (ht : T d (At w) (S [n])) : Ox P T d (.convert Sx Tx x) ty pos af gd g w := by
  have := run_strOf (P := P) (w := w) (b := b) (o := 0) (c := 1) (l := [n]) hS hT (byt_one hn) (fun j m hj => by
    cases j with
    | zero => simp at hj; subst hj; exact hc
    | succ j => simp at hj)
  unfold Ox opk
  have hr : (execOp (ev g) ⟨some d, .convert Sx Tx x, ty, pos, af, gd⟩).run P w = .ok (.value (S [n])) w := by
    have h1 : (convert Sx Tx (.slice (some ⟨b, 0, none⟩) 1 1)).run P w = .ok (S [n]) w := this
    simp [execOp, hx, h1]
  rw [hr]
  exact ⟨_, rfl, Bel.refl _ _, fun e he => by simp at he; subst he; exact ht⟩
end
end Go.Proofs.Ytmkboljfbmlebaa
