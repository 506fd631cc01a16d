/- A region that draws its order: operations that only read, a variable that is made at any time, and a write behind all. No condition. -/
import Derived.Test.YtbgnmapmiobjcaaK18
namespace Go.Proofs.Ytbgnmapmiobjcaa
open Go.RowKit
set_option linter.unusedSimpArgs false
set_option linter.unusedVariables false

/-- values only: nothing is called -/
def vw (P : Program) (ops : Array Oper) (C : World → Prop) (K : (Nat → Value) → Prop) : List Oper → (Nat → Value) → Prop
  | [], f => K f
  | o :: rest, f => if Region.wanted o (yf ops f) then ∃ v, (∀ w, C w → (execOp (ev f) o).run P w = .ok (.value v) w) ∧ vw P ops C K rest (updo f o.dst v) else vw P ops C K rest (updo f o.dst undef)
section
variable {P : Program} {ops : Array Oper} {C : World → Prop} {KQ : (Nat → Value) → Prop} {rest : List Oper} {f : Nat → Value} {d : Nat} {op : Op} {ty : TypeId} {pos : String} {af : Array Edge}
theorem u_val {v : Value} (h : Val P f C ⟨some d, op, ty, pos, af, none⟩ v) (k : vw P ops C KQ rest (upd f d v)) : vw P ops C KQ (⟨some d, op, ty, pos, af, none⟩ :: rest) f := by
  unfold vw
  rw [if_pos wanted_free]
  exact ⟨v, h.out, k⟩
theorem u_want {j s : Nat} {b g : Bool} {dst : Option Nat} (hj : (ops[j]?).bind (·.dst) = some s) (hs : f s = .bool g) (hg : g = b) (k : vw P ops C KQ (⟨dst, op, ty, pos, af, none⟩ :: rest) f) :
    vw P ops C KQ (⟨dst, op, ty, pos, af, some (j, b)⟩ :: rest) f := by
  unfold vw at k ⊢
  rw [if_pos wanted_free] at k
  rw [wanted_of hj hs, if_pos (by simp [hg])]
  exact k
theorem u_pass {j s : Nat} {b g : Bool} {dst : Option Nat} (hj : (ops[j]?).bind (·.dst) = some s) (hs : f s = .bool g) (hg : g = !b) (k : vw P ops C KQ rest (updo f dst undef)) :
    vw P ops C KQ (⟨dst, op, ty, pos, af, some (j, b)⟩ :: rest) f := by
  unfold vw
  rw [wanted_of hj hs, if_neg (by simp [hg])]
  exact k
theorem u_passU {j s : Nat} {b : Bool} {dst : Option Nat} (hj : (ops[j]?).bind (·.dst) = some s) (hs : f s = undef) (k : vw P ops C KQ rest (updo f dst undef)) :
    vw P ops C KQ (⟨dst, op, ty, pos, af, some (j, b)⟩ :: rest) f := by
  unfold vw
  rw [wanted_no hj hs, if_neg (by simp)]
  exact k
theorem u_end (h : KQ f) : vw P ops C KQ [] f := h

/-- what an operation comes to wherever its slots hold what they hold in the end -/
def Good1 (P : Program) (ops : Array Oper) (C : World → Prop) (f' : Nat → Value) (o : Oper) : Prop :=
  ∀ g : Nat → Value, (∀ t ∈ o.looksAt ops, g t = f' t) → ∃ v, (∀ d, o.dst = some d → f' d = v) ∧ if Region.wanted o (yf ops g) then (∀ w, C w → (execOp (ev g) o).run P w = .ok (.value v) w) else v = undef
def lookB (ops : Array Oper) : List Oper → Bool
  | [] => true
  | o :: r => (o.looksAt ops).all (fun t => !(dstsOf (o :: r)).contains t) && (match o.dst with | some d => !(dstsOf r).contains d | none => true) && (match o.op with | .select .. => false | _ => true) && lookB ops r
theorem ev_congr {f g : Nat → Value} {o : Oper} (hs : ∀ cs b, o.op ≠ .select cs b) (h : ∀ t ∈ o.looksAt ops, g t = f t) : execOp (ev g) o = execOp (ev f) o := by
  refine execOp_congr o hs fun x hx => ?_
  cases x with
  | tmp t => exact h t (List.mem_append_left _ (List.mem_filterMap.2 ⟨.tmp t, by simpa using hx, rfl⟩))
  | _ => rfl
theorem want_congr {f g : Nat → Value} {o : Oper} (h : ∀ t ∈ o.looksAt ops, g t = f t) : Region.wanted o (yf ops g) = Region.wanted o (yf ops f) := by
  unfold Region.wanted
  split
  · rfl
  · rename_i j b hg
    congr 1
    unfold yf
    cases hd : (ops[j]?).bind (·.dst) with
    | none => rfl
    | some d =>
      have : g d = f d := h d (List.mem_append_right _ (by simp [hg, hd]))
      simp only [this]
theorem vw_trace {K : (Nat → Value) → Prop} : ∀ (l : List Oper) (f : Nat → Value), lookB ops l = true → vw P ops C K l f → ∃ f', K f' ∧ (∀ t, t ∉ dstsOf l → f' t = f t) ∧ ∀ o ∈ l, Good1 P ops C f' o
  | [], f, _, h => ⟨f, h, fun _ _ => rfl, fun o ho => by cases ho⟩
  | o :: r, f, hB, h => by
    simp only [lookB, Bool.and_eq_true, List.all_eq_true] at hB
    obtain ⟨⟨⟨h1, h2⟩, h3⟩, h4⟩ := hB
    have hsel : ∀ cs b, o.op ≠ .select cs b := fun cs b e => by rw [e] at h3; cases h3
    have hd : ∀ d, o.dst = some d → d ∉ dstsOf r := fun d hd hm => by rw [hd] at h2; simp at h2; exact h2 hm
    have hlk : ∀ t ∈ o.looksAt ops, t ∉ dstsOf (o :: r) := fun t ht hm => by have := h1 t ht; simp at this; exact this hm
    have hsub : ∀ t, t ∉ dstsOf (o :: r) → t ∉ dstsOf r ∧ o.dst ≠ some t := fun t ht => by
      refine ⟨fun hm => ht ?_, fun e => ht ?_⟩
      · unfold dstsOf at hm ⊢
        obtain ⟨u, hu, he⟩ := List.mem_filterMap.1 hm
        exact List.mem_filterMap.2 ⟨u, List.mem_cons_of_mem _ hu, he⟩
      · exact List.mem_filterMap.2 ⟨o, List.mem_cons_self, e⟩
    have upo : ∀ (v : Value) (t : Nat), o.dst ≠ some t → updo f o.dst v t = f t := fun v t ht => by
      cases hod : o.dst with
      | none => rfl
      | some d => simp only [updo]; exact upd_other f v (fun e => ht (by rw [hod, e]))
    have fin : ∀ v, vw P ops C K r (updo f o.dst v) → (if Region.wanted o (yf ops f) then (∀ w, C w → (execOp (ev f) o).run P w = .ok (.value v) w) else v = undef) → ∃ f', K f' ∧ (∀ t, t ∉ dstsOf (o :: r) → f' t = f t) ∧ ∀ u ∈ o :: r, Good1 P ops C f' u := by
      intro v hq hv
      obtain ⟨f', e1, e2, e3⟩ := vw_trace r _ h4 hq
      have hag : ∀ t, t ∉ dstsOf (o :: r) → f' t = f t := fun t ht => (e2 t (hsub t ht).1).trans (upo v t (hsub t ht).2)
      refine ⟨f', e1, hag, fun u hu => ?_⟩
      rcases List.mem_cons.1 hu with rfl | hu
      · intro g hg
        have hgf : ∀ t ∈ u.looksAt ops, g t = f t := fun t ht => (hg t ht).trans (hag t (hlk t ht))
        refine ⟨v, fun d hdd => ?_, ?_⟩
        · rw [e2 d (hd d hdd), hdd]; simp only [updo, upd_same]
        · rw [want_congr hgf, ev_congr hsel hgf]; exact hv
      · exact e3 u hu
    unfold vw at h
    split at h
    · rename_i hw
      obtain ⟨v, hv, hq⟩ := h
      exact fin v hq (by rw [if_pos hw]; exact hv)
    · rename_i hw
      exact fin undef h (by rw [if_neg hw])
end
/-- reading, then a variable made, then a write: the variable may come up at any time -/
theorem a_list {P : Program} {n : Nat} {Q : Exit → (Nat → Value) → World → Prop} {f : Nat → Value} {w0 : World} {F : Addr → Value → Prop} {L : List (Nat × Obj)} {id k d T : Nat} {m : List Oper} {ty : TypeId} {pos : String} {af : Array Edge} {o0 : Oper} {z : Value}
    (hm : P.follows .mixedOrders = true) (hs : m.drop k = [Oper.mk (some d) (.alloc T) ty pos af none, o0]) (hB : opsB n m.toArray = true) (hF : flowTB .any (m.take k ++ [Oper.mk (some d) (.alloc T) ty pos af none]) o0 = true) (hL : lookB m.toArray (m.take k) = true)
    (hN : (m.take k).all (fun o => !(o.looksAt m.toArray).contains d) = true) (hz : (P.info? T).map (·.zero) = some (some z))
    (h : vw P m.toArray (Has w0 F L) (fun f' => ∀ b, sC P m.toArray (fun f w => Q .normal f w) [o0] (upd f' d (.pointer (some ⟨b, 0, none⟩))) (Has w0 F ((b, .cells z.cells T) :: L))) (m.take k) f) :
    cC P n (.region id m.toArray true) Q f (Has w0 F L) := by
  have hmm : m = (m.take k ++ [Oper.mk (some d) (.alloc T) ty pos af none]) ++ [o0] := by
    rw [List.append_assoc, List.singleton_append, ← hs, List.take_append_drop]
  obtain ⟨f', hK, hout, hgood⟩ := vw_trace (m.take k) f hL h
  generalize hl : m.take k = l at *
  have hds : dstsOf (l ++ [Oper.mk (some d) (.alloc T) ty pos af none]) = dstsOf l ++ [d] := by simp [dstsOf]
  have hnd : (dstsOf (l ++ [Oper.mk (some d) (.alloc T) ty pos af none])).Nodup := by
    simp only [flowTB, Bool.and_eq_true, decide_eq_true_eq] at hF; exact hF.1.1.1
  rw [hds] at hnd
  have hdl : d ∉ dstsOf l := fun hm => by rw [List.nodup_append] at hnd; exact hnd.2.2 d hm d (by simp) rfl
  clear hl hs
  subst hmm
  let Ψ : Nat → Value → World → Prop := fun e v w => if e = d then ∃ b, v = .pointer (some ⟨b, 0, none⟩) ∧ Has w0 F ((b, .cells z.cells T) :: L) w else v = f' e
  have obl : ∀ r : List Oper, (∀ o ∈ r, ObT P (Has w0 F L) f (l ++ [Oper.mk (some d) (.alloc T) ty pos af none]) o0 Ψ o) → ObsT P (Has w0 F L) f (l ++ [Oper.mk (some d) (.alloc T) ty pos af none]) o0 Ψ r := by
    intro r
    induction r with
    | nil => intro _; trivial
    | cons x r ih => intro h; exact ⟨h x (by simp), ih fun o ho => h o (by simp [ho])⟩
  refine d_flowT (Ψ := Ψ) hm hB hF (fun w w' hw hb => hw.below hb) ?_ (obl _ ?_) ?_
  · intro e v w w' _ hb hp
    simp only [Ψ] at hp ⊢
    split
    · rename_i he; rw [if_pos he] at hp; obtain ⟨b, h1, h2⟩ := hp; exact ⟨b, h1, h2.below hb⟩
    · rename_i he; rw [if_neg he] at hp; exact hp
  · intro o ho g w hw hlk
    rw [hds] at hlk
    rcases List.mem_append.1 ho with hol | hol
    · have hnd' : ∀ t ∈ o.looksAt ((l ++ [Oper.mk (some d) (.alloc T) ty pos af none]) ++ [o0]).toArray, t ≠ d := fun t ht e => by
        have := List.all_eq_true.1 hN o hol
        simp at this
        subst e
        exact this (by simpa using ht)
      obtain ⟨v, hv1, hv2⟩ := hgood o hol g (fun t ht => by
        have h1 := hlk t ht
        have hne := hnd' t ht
        by_cases hm : t ∈ dstsOf l
        · have := h1.1 (by simp [hm])
          simp only [Ψ, if_neg hne] at this
          exact this
        · rw [h1.2 (by simp [hm, hne]), hout t hm])
      have hod : ∀ d', o.dst = some d' → d' ≠ d := fun d' hd' e => hdl (by subst e; exact List.mem_filterMap.2 ⟨o, hol, hd'⟩)
      split
      · rename_i hwt
        rw [if_pos hwt] at hv2
        unfold opk
        rw [hv2 w hw]
        exact ⟨v, rfl, Bel.refl _ _, fun d' hd' => by simp only [Ψ, if_neg (hod d' hd')]; exact (hv1 d' hd').symm⟩
      · rename_i hwt
        rw [if_neg hwt] at hv2
        intro d' hd'
        simp only [Ψ, if_neg (hod d' hd')]
        rw [hv1 d' hd', hv2]
    · simp only [List.mem_singleton] at hol
      subst hol
      rw [if_pos wanted_free]
      unfold opk
      have hzr : ∀ w, (zeroValue T).run P w = .ok z w := by
        intro w
        cases hi : P.info? T with
        | none => simp [hi] at hz
        | some i => simp [hi] at hz; simp [zeroValue, typeInfo, hi, hz]
      have hr : (execOp (ev g) ⟨some d, .alloc T, ty, pos, af, none⟩).run P w = .ok (.value (.pointer (some ⟨w.heap.size, 0, none⟩))) (w.alloc (.cells z.cells T)) := by
        simp [execOp, Instr.alloc, hzr, newVar, newRow, newObj, Sem.run]
      rw [hr]
      exact ⟨_, rfl, (Bel.refl _ _).alloc (Nat.le_refl _) _, fun e he => by
        simp at he; subst he
        simp only [Ψ, if_true]
        exact ⟨_, rfl, hw.alloc _⟩⟩
  · intro g w hw hd he
    rw [hds] at hd he
    have h7 := hd d (by simp)
    simp only [Ψ, if_true] at h7
    obtain ⟨b, e1, e2⟩ := h7
    have hg : g = upd f' d (.pointer (some ⟨b, 0, none⟩)) := by
      funext t
      by_cases ht : t = d
      · subst ht; rw [upd_same]; exact e1
      · rw [upd_other f' _ ht]
        by_cases hm : t ∈ dstsOf l
        · have := hd t (by simp [hm])
          simp only [Ψ, if_neg ht] at this
          exact this
        · rw [he t (by simp [hm, ht]), hout t hm]
    rw [hg]
    exact hK b w e2
end Go.Proofs.Ytbgnmapmiobjcaa
