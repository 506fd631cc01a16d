/- The small logic in which this seat's contracts are proved: frames as functions, classes of worlds, one law an operation. No condition. -/
import Derived.Deep.Quiet
import Derived.Below
import Derived.KernelRfl
import Derived.Tactics
import Derived.Laws.World
import Derived.Laws.Rows
import Derived.Laws.AppendOwn
import Derived.LoopN
import Derived.Deep.LoopGhost
namespace Go.Proofs.Ytmkboljfbmlebaa
open Go.RowKit
set_option linter.unusedSimpArgs false
set_option linter.unusedVariables false

/-! frames -/
def upd (f : Nat → Value) (d : Nat) (v : Value) : Nat → Value := fun i => bif Nat.beq i d then v else f i
def updo (f : Nat → Value) : Option Nat → Value → (Nat → Value)
  | some d, v => upd f d v
  | none, _ => f
def Fa (n : Nat) (f : Nat → Value) : Act := { tmps := Array.ofFn (n := n) fun i => f i.val, defers := [] }
def ev (f : Nat → Value) : Operand → Value
  | .tmp t => f t
  | .const v => v
  | .global g => .pointer (some ⟨g, 0, none⟩)
  | .func k => .func (.func k) #[] #[]
def argF (l : List Value) : Nat → Value := fun i => l.getD i undef
def yf (ops : Array Oper) (f : Nat → Value) (j : Nat) : Option Bool :=
  match (ops[j]?).bind (·.dst) with
  | some d => (match f d with | .bool b => some b | _ => none)
  | none => none

def opndB (n : Nat) : Operand → Bool
  | .tmp t => decide (t < n)
  | _ => true
def operB (n : Nat) (ops : Array Oper) (o : Oper) : Bool :=
  o.op.operands.all (opndB n) && (match o.op with | .select .. => false | _ => true) &&
  (match o.guard with | none => true | some (j, _) => match (ops[j]?).bind (·.dst) with | some d => decide (d < n) | none => true)
def opsB (n : Nat) (ops : Array Oper) : Bool := ops.toList.all (operB n ops)

theorem upd_same (f : Nat → Value) (d : Nat) (v : Value) : upd f d v d = v := by simp [upd]
theorem upd_other (f : Nat → Value) {d i : Nat} (v : Value) (h : i ≠ d) : upd f d v i = f i := by
  have : Nat.beq i d = false := by
    cases h' : Nat.beq i d
    · rfl
    · exact absurd (Nat.eq_of_beq_eq_true h') h
  simp [upd, this]
theorem upd_self {f : Nat → Value} {d : Nat} {v : Value} (h : f d = v) : upd f d v = f := by
  funext i
  by_cases hi : i = d
  · subst hi; rw [upd_same]; exact h.symm
  · exact upd_other f v hi

theorem Fa_put (n : Nat) (f : Nat → Value) (d : Option Nat) (v : Value) : (Fa n f).put d v = Fa n (updo f d v) := by
  cases d with
  | none => rfl
  | some d =>
    simp only [Act.put, Fa, updo, Act.mk.injEq, and_true]
    apply Array.ext
    · simp
    · intro i h1 h2
      simp only [Array.size_setIfInBounds, Array.size_ofFn] at h1
      rw [Array.getElem_setIfInBounds (by simpa using h1)]
      simp only [Array.getElem_ofFn]
      by_cases hi : d = i
      · subst hi; simp [upd]
      · rw [if_neg hi, upd_other f v (fun h => hi h.symm)]

theorem Fa_eval {n : Nat} {f : Nat → Value} {x : Operand} (h : opndB n x = true) : (Fa n f).eval x = ev f x := by
  cases x with
  | tmp t =>
    simp only [opndB, decide_eq_true_eq] at h
    simp [Act.eval, Fa, ev, Array.getD, h]
  | const v => rfl
  | global g => rfl
  | func k => rfl

theorem Fa_wanted {n : Nat} {ops : Array Oper} {o : Oper} {f : Nat → Value} (h : operB n ops o = true) :
    Region.wanted o (yielded ops (Fa n f).tmps) = Region.wanted o (yf ops f) := by
  simp only [operB, Bool.and_eq_true] at h
  obtain ⟨_, hg⟩ := h
  unfold Region.wanted
  split
  · rfl
  · rename_i j want hgd
    rw [hgd] at hg
    simp only at hg
    congr 1
    unfold yielded yf
    cases hd : (ops[j]?).bind (·.dst) with
    | none => rfl
    | some d =>
      rw [hd] at hg
      simp only [decide_eq_true_eq] at hg
      have : ((Array.ofFn (n := n) fun i => f i.val)[d]? : Option Value) = some (f d) := by simp [hg]
      simp only [Option.bind_some, Fa, this]
      cases f d <;> rfl

theorem operB_sel {n : Nat} {ops : Array Oper} {o : Oper} (h : operB n ops o = true) : ∀ cs b, o.op ≠ .select cs b := by
  intro cs b e
  simp only [operB, Bool.and_eq_true] at h
  have := h.1.2
  rw [e] at this
  cases this

theorem Fa_exec {n : Nat} {ops : Array Oper} {o : Oper} {f : Nat → Value} (h : operB n ops o = true) :
    execOp (Fa n f).eval o = execOp (ev f) o := by
  refine execOp_congr o (operB_sel h) fun x hx => Fa_eval ?_
  simp only [operB, Bool.and_eq_true] at h
  have h1 := h.1.1
  rw [Array.all_eq_true_iff_forall_mem] at h1
  exact h1 x hx

theorem Fa_args (n : Nat) (l : List Value) (h : l.length ≤ n) : l.toArray ++ Array.replicate (n - l.toArray.size) undef = (Fa n (argF l)).tmps := by
  apply Array.ext
  · simp [Fa]; omega
  · intro i h1 h2
    simp only [Fa, Array.getElem_ofFn, argF]
    rw [Array.getElem_append]
    split
    · rename_i hi
      simp at hi ⊢
      simp [List.getD, hi]
    · rename_i hi
      simp at hi ⊢
      simp [List.getD, List.getElem?_eq_none hi]

/-! operations -/
def opk (P : Program) (o : Oper) (f : Nat → Value) (w : World) (K : (Nat → Value) → World → Prop) : Prop :=
  match (execOp (ev f) o).run P w with
  | .ok (.value v) w' => K (updo f o.dst v) w'
  | .ok .skip w' => K (updo f o.dst undef) w'
  | .ok (.enter g args) w' => Calls P g args w' fun e w'' => ∃ v, e = .returned v ∧ K (updo f o.dst v) w''
  | _ => False

def sw (P : Program) (ops : Array Oper) (K : (Nat → Value) → World → Prop) : List Oper → (Nat → Value) → World → Prop
  | [], f, w => K f w
  | o :: rest, f, w => if Region.wanted o (yf ops f) then opk P o f w (sw P ops K rest) else sw P ops K rest (updo f o.dst undef) w

theorem sw_wpList {P : Program} {n : Nat} {ops : Array Oper} {K : (Nat → Value) → World → Prop} {Q : Exit → Act → World → Prop}
    (hK : ∀ f w, K f w → Q .normal (Fa n f) w) : ∀ (l : List Oper), l.all (operB n ops) = true → ∀ (f : Nat → Value) (w : World), sw P ops K l f w → wpList P ops Q l (Fa n f) w
  | [], _, _, _, h => hK _ _ h
  | o :: rest, hB, f, w, h => by
    simp only [List.all_cons, Bool.and_eq_true] at hB
    obtain ⟨ho, hr⟩ := hB
    unfold wpList
    rw [Fa_wanted ho]
    unfold sw at h
    split
    · rename_i hw
      rw [if_pos hw] at h
      refine Or.inl ?_
      unfold Oper.wp
      rw [Fa_exec ho]
      unfold opk at h
      generalize (execOp (ev f) o).run P w = r at h
      cases r with
      | ok nx w' =>
        cases nx <;> simp only at h <;> simp only [Oper.upon]
        case value v => rw [Fa_put]; exact sw_wpList hK rest hr _ _ h
        case skip => rw [Fa_put]; exact sw_wpList hK rest hr _ _ h
        case enter g args =>
          refine Calls.mono h fun e w'' ⟨v, he, hk⟩ => ?_
          subst he
          show wpList P ops Q rest ((Fa n f).put o.dst v) w''
          rw [Fa_put]
          exact sw_wpList hK rest hr _ _ hk
      | halt x w' => exact h.elim
    · rename_i hw
      rw [if_neg hw] at h
      rw [Fa_put]
      exact sw_wpList hK rest hr _ _ h

def qw (P : Program) (ops : Array Oper) (C : World → Prop) (K : (Nat → Value) → Prop) : List Oper → (Nat → Value) → Prop
  | [], f => K f
  | o :: rest, f => if Region.wanted o (yf ops f) then ∃ v, (∀ w, C w → Oper.quietUpon P C w v ((execOp (ev f) o).run P w)) ∧ qw P ops C K rest (updo f o.dst v)
    else qw P ops C K rest (updo f o.dst undef)

theorem qw_wpQuiet {P : Program} {n : Nat} {ops : Array Oper} {C : World → Prop} {K : (Nat → Value) → Prop} {Q : Act → Prop}
    (hK : ∀ f, K f → Q (Fa n f)) : ∀ (l : List Oper), l.all (operB n ops) = true → ∀ (f : Nat → Value), qw P ops C K l f → wpQuiet P ops C Q l (Fa n f)
  | [], _, _, h => hK _ h
  | o :: rest, hB, f, h => by
    simp only [List.all_cons, Bool.and_eq_true] at hB
    obtain ⟨ho, hr⟩ := hB
    unfold wpQuiet
    rw [Fa_wanted ho]
    unfold qw at h
    split
    · rename_i hw
      rw [if_pos hw] at h
      obtain ⟨v, h1, h2⟩ := h
      refine ⟨v, fun w hw => ?_, ?_⟩
      · unfold Oper.quietAt; rw [Fa_exec ho]; exact h1 w hw
      · rw [Fa_put]; exact qw_wpQuiet hK rest hr _ h2
    · rename_i hw
      rw [if_neg hw] at h
      rw [Fa_put]
      exact qw_wpQuiet hK rest hr _ h

/-! code -/
def cw (P : Program) (n : Nat) (c : Code) (Q : Exit → (Nat → Value) → World → Prop) (f : Nat → Value) (w : World) : Prop :=
  c.wp P (fun e a w => ∃ f, a = Fa n f ∧ Q e f w) (Fa n f) w
def cC (P : Program) (n : Nat) (c : Code) (Q : Exit → (Nat → Value) → World → Prop) (f : Nat → Value) (C : World → Prop) : Prop := ∀ w, C w → cw P n c Q f w
def sC (P : Program) (ops : Array Oper) (K : (Nat → Value) → World → Prop) (l : List Oper) (f : Nat → Value) (C : World → Prop) : Prop := ∀ w, C w → sw P ops K l f w
def nC (Q : Exit → (Nat → Value) → World → Prop) (e : Exit) (f : Nat → Value) (C : World → Prop) : Prop := ∀ w, C w → Q e f w
def thenQ (K : (Nat → Value) → World → Prop) (Q : Exit → (Nat → Value) → World → Prop) : Exit → (Nat → Value) → World → Prop
  | .normal, f, w => K f w
  | e, f, w => Q e f w
def inB (id : Nat) (Q : Exit → (Nat → Value) → World → Prop) : Exit → (Nat → Value) → World → Prop
  | .exit id', f, w => if id' = id then Q .normal f w else Q (.exit id') f w
  | e, f, w => Q e f w

section
variable {P : Program} {n : Nat} {Q : Exit → (Nat → Value) → World → Prop} {f : Nat → Value} {C : World → Prop}

theorem cw_mono {c : Code} {Q' : Exit → (Nat → Value) → World → Prop} {w : World} (h : cw P n c Q f w) (hq : ∀ e f w, Q e f w → Q' e f w) : cw P n c Q' f w :=
  wp_mono h fun _ _ _ ⟨g, hg, hr⟩ => ⟨g, hg, hq _ _ _ hr⟩

theorem c_seq {x y : Code} (h : cC P n x (thenQ (fun f w => cw P n y Q f w) Q) f C) : cC P n (.seq x y) Q f C := by
  intro w hw
  refine wp_seq (wp_mono (h w hw) ?_)
  rintro e a w' ⟨g, rfl, hr⟩
  cases e <;> first
    | exact hr
    | exact ⟨g, rfl, hr⟩
theorem c_skip (h : nC Q .normal f C) : cC P n .skip Q f C := fun w hw => wp_skip ⟨f, rfl, h w hw⟩
theorem c_ret (h : nC Q .ret f C) : cC P n .ret Q f C := fun w hw => wp_ret ⟨f, rfl, h w hw⟩
theorem c_exit {id : Nat} (h : nC Q (.exit id) f C) : cC P n (.exit id) Q f C := fun w hw => wp_exit ⟨f, rfl, h w hw⟩
theorem c_block {id : Nat} {c : Code} (h : cC P n c (inB id Q) f C) : cC P n (.block id c) Q f C := by
  intro w hw
  refine wp_block (wp_mono (h w hw) ?_)
  rintro e a w' ⟨g, rfl, hr⟩
  cases e
  case exit id' =>
    simp only [inB] at hr
    simp only [Exit.inBlock]
    split
    · rename_i e; rw [if_pos e] at hr; exact ⟨g, rfl, hr⟩
    · rename_i e; rw [if_neg e] at hr; exact ⟨g, rfl, hr⟩
  all_goals exact ⟨g, rfl, hr⟩
theorem c_condT {c : Operand} {x y : Code} (hB : opndB n c = true) (hc : ev f c = .bool true) (h : cC P n x Q f C) : cC P n (.cond c x y) Q f C :=
  fun w hw => wp_cond_true ((Fa_eval hB).trans hc) (h w hw)
theorem c_condF {c : Operand} {x y : Code} (hB : opndB n c = true) (hc : ev f c = .bool false) (h : cC P n y Q f C) : cC P n (.cond c x y) Q f C :=
  fun w hw => wp_cond_false ((Fa_eval hB).trans hc) (h w hw)
theorem c_cond {c : Operand} {x y : Code} {b : Bool} (hB : opndB n c = true) (hc : ev f c = .bool b) (ht : b = true → cC P n x Q f C) (hf : b = false → cC P n y Q f C) : cC P n (.cond c x y) Q f C := by
  cases b
  · exact c_condF hB hc (hf rfl)
  · exact c_condT hB hc (ht rfl)
theorem c_loop {σ : Type} {body : Code} (I : σ → (Nat → Value) → Prop) (D : σ → World → Prop) (μ : σ → Nat) (s0 : σ) (h0 : I s0 f) (hD : ∀ w, C w → D s0 w)
    (round : ∀ s f, I s f → cC P n body (thenQ (fun f' w' => ∃ s', I s' f' ∧ D s' w' ∧ μ s' < μ s) Q) f (D s)) : cC P n (.loop body) Q f C := by
  intro w hw
  refine wp_loop_ghost (fun m a w => ∃ f s, a = Fa n f ∧ I s f ∧ D s w ∧ μ s = m) (μ s0) ⟨f, s0, rfl, h0, hD w hw, rfl⟩ ?_
  rintro m a w ⟨f, s, rfl, hI, hs, rfl⟩
  refine wp_mono (round s f hI w hs) ?_
  rintro e a' w' ⟨g, rfl, hr⟩
  cases e
  case normal =>
    obtain ⟨s', h1, h2, h3⟩ := hr
    exact ⟨μ s', h3, g, s', rfl, h1, h2, rfl⟩
  all_goals exact ⟨g, rfl, hr⟩

/-- a loop that is walked round by round -/
def rw_ (P : Program) (n : Nat) (body : Code) (Q : Exit → (Nat → Value) → World → Prop) : Nat → (Nat → Value) → World → Prop
  | 0, _, _ => False
  | k + 1, f, w => cw P n body (thenQ (fun f' w' => rw_ P n body Q k f' w') Q) f w
def rC (P : Program) (n : Nat) (body : Code) (Q : Exit → (Nat → Value) → World → Prop) (k : Nat) (f : Nat → Value) (C : World → Prop) : Prop := ∀ w, C w → rw_ P n body Q k f w
theorem rw_rounds {body : Code} : ∀ (k : Nat) (f : Nat → Value) (w : World), rw_ P n body Q k f w → Code.rounds P body (fun e a w => ∃ f, a = Fa n f ∧ Q e f w) k (Fa n f) w
  | 0, _, _, h => h.elim
  | k + 1, f, w, h => by
    rw [rounds_succ]
    refine wp_mono h ?_
    rintro e a' w' ⟨g, rfl, hr⟩
    cases e
    case normal => exact rw_rounds k g w' hr
    all_goals exact ⟨g, rfl, hr⟩
theorem c_rounds {body : Code} (k : Nat) (h : rC P n body Q k f C) : cC P n (.loop body) Q f C := fun w hw => wp_loop_rounds k (rw_rounds k f w (h w hw))
theorem r_succ {body : Code} {k : Nat} (h : cC P n body (thenQ (fun f' w' => rw_ P n body Q k f' w') Q) f C) : rC P n body Q (k + 1) f C := h

/-! what stands behind -/
theorem n_then {y : Code} {Q' : Exit → (Nat → Value) → World → Prop} (h : cC P n y Q f C) : nC (thenQ (fun f w => cw P n y Q f w) Q') .normal f C := h
theorem n_thenR {body : Code} {k : Nat} {Q' : Exit → (Nat → Value) → World → Prop} (h : rC P n body Q k f C) : nC (thenQ (fun f w => rw_ P n body Q k f w) Q') .normal f C := h
theorem n_ret {K : (Nat → Value) → World → Prop} (h : nC Q .ret f C) : nC (thenQ K Q) .ret f C := h
theorem n_exit {K : (Nat → Value) → World → Prop} {id : Nat} (h : nC Q (.exit id) f C) : nC (thenQ K Q) (.exit id) f C := h
theorem n_bnormal {id : Nat} (h : nC Q .normal f C) : nC (inB id Q) .normal f C := h
theorem n_bret {id : Nat} (h : nC Q .ret f C) : nC (inB id Q) .ret f C := h
theorem n_bhere {id : Nat} (h : nC Q .normal f C) : nC (inB id Q) (.exit id) f C := fun w hw => by simp only [inB, if_true]; exact h w hw
theorem n_bpast {id id' : Nat} (hne : Nat.beq id' id = false) (h : nC Q (.exit id') f C) : nC (inB id Q) (.exit id') f C := fun w hw => by
  have : ¬ id' = id := fun e => by subst e; simp at hne
  simp only [inB, if_neg this]; exact h w hw

theorem n_round {σ : Type} {I : σ → (Nat → Value) → Prop} {D : σ → World → Prop} {μ : σ → Nat} {s : σ} (s' : σ) (h1 : I s' f) (h2 : ∀ w, C w → D s' w) (h3 : μ s' < μ s) :
    nC (thenQ (fun f' w' => ∃ s', I s' f' ∧ D s' w' ∧ μ s' < μ s) Q) .normal f C := fun w hw => ⟨s', h1, h2 w hw, h3⟩

/-- a piece of code, and behind it only what is named of its frame -/
theorem c_cut {x y : Code} (J : (Nat → Value) → Prop) (C' : World → Prop) (h1 : cC P n x (thenQ (fun f' w' => J f' ∧ C' w') Q) f C) (h2 : ∀ f', J f' → cC P n y Q f' C') : cC P n (.seq x y) Q f C :=
  c_seq fun w hw => cw_mono (h1 w hw) fun e f' w' hq => by
    cases e <;> first
      | exact h2 f' hq.1 w' hq.2
      | exact hq
theorem c_cutN {x : Code} (J : (Nat → Value) → Prop) (C' : World → Prop) (h1 : cC P n x (thenQ (fun f' w' => J f' ∧ C' w') Q) f C) (h2 : ∀ f', J f' → nC Q .normal f' C') : cC P n x Q f C :=
  fun w hw => cw_mono (h1 w hw) fun e f' w' hq => by
    cases e <;> first
      | exact h2 f' hq.1 w' hq.2
      | exact hq
theorem n_cut {J : (Nat → Value) → Prop} {C' : World → Prop} (h1 : J f) (h2 : ∀ w, C w → C' w) : nC (thenQ (fun f' w' => J f' ∧ C' w') Q) .normal f C := fun w hw => ⟨h1, h2 w hw⟩

/-! regions -/
theorem r_list {id : Nat} {l : List Oper} (hB : opsB n l.toArray = true) (h : sC P l.toArray (fun f w => Q .normal f w) l f C) : cC P n (.region id l.toArray false) Q f C :=
  fun w hw => wp_region_lit (sw_wpList (fun f w hq => ⟨f, rfl, hq⟩) l (by simpa [opsB] using hB) f w (h w hw))
theorem r_seq {id : Nat} {l : List Oper} {y : Code} (hB : opsB n l.toArray = true) (h : sC P l.toArray (fun f w => cw P n y Q f w) l f C) : cC P n (.seq (.region id l.toArray false) y) Q f C :=
  c_seq (r_list hB h)
theorem s_nil {ops : Array Oper} {y : Code} (h : cC P n y Q f C) : sC P ops (fun f w => cw P n y Q f w) [] f C := h
theorem s_end {ops : Array Oper} (h : nC Q .normal f C) : sC P ops (fun f w => Q .normal f w) [] f C := h
theorem d_list {id : Nat} {l : List Oper} (hm : P.follows .mixedOrders = true) (hL : Region.lexB .any l.toArray = true) (hC : ∀ w, C w → C w.drew) (hB : opsB n l.toArray = true)
    (h : qw P l.toArray C (fun f => nC Q .normal f C) l f) : cC P n (.region id l.toArray true) Q f C :=
  fun w hw => wp_region_quiet (C := C) hm hL (hC w hw) (by
    have := qw_wpQuiet (P := P) (C := C) (Q := fun a' => ∀ w', C w' → ∃ f, a' = Fa n f ∧ Q .normal f w') (fun f hK w' hw' => ⟨f, rfl, hK w' hw'⟩) l (by simpa [opsB] using hB) f h
    simpa using this)
theorem d_seq {id : Nat} {l : List Oper} {y : Code} (hm : P.follows .mixedOrders = true) (hL : Region.lexB .any l.toArray = true) (hC : ∀ w, C w → C w.drew) (hB : opsB n l.toArray = true)
    (h : qw P l.toArray C (fun f => cC P n y Q f C) l f) : cC P n (.seq (.region id l.toArray true) y) Q f C :=
  c_seq (d_list hm hL hC hB h)
theorem q_nil {ops : Array Oper} {y : Code} (h : cC P n y Q f C) : qw P ops C (fun f => cC P n y Q f C) [] f := h
theorem q_end {ops : Array Oper} (h : nC Q .normal f C) : qw P ops C (fun f => nC Q .normal f C) [] f := h
end

/-- what was there is there, and no draw is taken back -/
structure Bel (B : Nat) (w w' : World) : Prop extends Below B w w' where
  drawn : w.drawn ≤ w'.drawn
theorem Bel.refl (B : Nat) (w : World) : Bel B w w := ⟨Below.refl B w, Nat.le_refl _⟩
theorem Bel.trans {B : Nat} {a b c : World} (h : Bel B a b) (k : Bel B b c) : Bel B a c := ⟨h.toBelow.trans k.toBelow, Nat.le_trans h.drawn k.drawn⟩
theorem Bel.mono {B B' : Nat} {w w' : World} (h : Bel B w w') (hB : B' ≤ B) : Bel B' w w' := ⟨h.toBelow.mono hB, h.drawn⟩
theorem Bel.drew {B : Nat} {a w : World} (h : Bel B a w) : Bel B a w.drew := ⟨h.toBelow.drew, Nat.le_succ_of_le h.drawn⟩
theorem Bel.alloc {B : Nat} {a w : World} (h : Bel B a w) (hB : B ≤ w.heap.size) (o : Obj) : Bel B a (w.alloc o) := ⟨h.toBelow.alloc hB o, h.drawn⟩
theorem Bel.cell {B : Nat} {w w' : World} (h : Bel B w w') {p : Addr} (hp : p.block < B) : w'.cell? p = w.cell? p := h.toBelow.cell hp

/-! worlds: what was there when the call began is as it was; what the call itself has laid is known block by block -/
def At (w : World) : Addr → Value → Prop := fun a v => w.cell? a = some v
/-- F: cells that are known, in no block of L -/
def Has (w0 : World) (F : Addr → Value → Prop) (L : List (Nat × Obj)) (w : World) : Prop :=
  Bel w0.heap.size w0 w ∧ (L.map (·.1)).Nodup ∧ (∀ p ∈ L, w0.heap.size ≤ p.1 ∧ w.heap[p.1]? = some p.2) ∧ ∀ a v, F a v → w.cell? a = some v ∧ a.block ∉ L.map (·.1)

theorem Has.start (w : World) : Has w (At w) [] w := ⟨Bel.refl _ _, by simp, by simp, fun a v h => ⟨h, by simp⟩⟩
theorem cell_lt {w : World} {a : Addr} {v : Value} (h : w.cell? a = some v) : a.block < w.heap.size := by
  rcases Nat.lt_or_ge a.block w.heap.size with h' | h'
  · exact h'
  · simp [World.cell?, Array.getElem?_eq_none h'] at h
theorem Has.below {w0 w w' : World} {F : Addr → Value → Prop} {L : List (Nat × Obj)} (h : Has w0 F L w) (hb : Bel w.heap.size w w') : Has w0 F L w' :=
  ⟨h.1.trans (hb.mono h.1.size), h.2.1, fun p hp => (by
    obtain ⟨h1, h2⟩ := h.2.2.1 p hp
    refine ⟨h1, ?_⟩
    rw [hb.block p.1 (Array.getElem?_eq_some_iff.1 h2).1]; exact h2), fun a v hF => (by
    obtain ⟨h1, h2⟩ := h.2.2.2 a v hF
    exact ⟨by rw [hb.cell (cell_lt h1)]; exact h1, h2⟩)⟩
theorem Has.drew {w0 w : World} {F : Addr → Value → Prop} {L : List (Nat × Obj)} (h : Has w0 F L w) : Has w0 F L w.drew := h.below ((Bel.refl _ _).drew)
/-- what is known more behind a call -/
def More (F F' : Addr → Value → Prop) : Prop := ∀ a v, F a v → F' a v
def Out (L : List (Nat × Obj)) (w : World) : Addr → Value → Prop := fun a v => w.cell? a = some v ∧ a.block ∉ L.map (·.1)
theorem Has.learn {w0 w w' : World} {F : Addr → Value → Prop} {L : List (Nat × Obj)} (h : Has w0 F L w) (hb : Bel w.heap.size w w') : Has w0 (Out L w') L w' ∧ More F (Out L w') :=
  ⟨⟨(h.below hb).1, h.2.1, (h.below hb).2.2.1, fun a v hF => hF⟩, fun a v hF => (h.below hb).2.2.2 a v hF⟩
theorem Has.at {w0 w : World} {F : Addr → Value → Prop} {L : List (Nat × Obj)} (h : Has w0 F L w) : More F (At w) := fun a v hF => (h.2.2.2 a v hF).1
theorem Has.alloc {w0 w : World} {F : Addr → Value → Prop} {L : List (Nat × Obj)} (h : Has w0 F L w) (o : Obj) : Has w0 F ((w.heap.size, o) :: L) (w.alloc o) := by
  refine ⟨h.1.alloc h.1.size o, ?_, ?_, ?_⟩
  · simp only [List.map_cons, List.nodup_cons]
    refine ⟨fun hm => ?_, h.2.1⟩
    obtain ⟨p, hp, he⟩ := List.mem_map.1 hm
    have := (Array.getElem?_eq_some_iff.1 (h.2.2.1 p hp).2).1
    omega
  · intro p hp
    rcases List.mem_cons.1 hp with rfl | hp
    · exact ⟨h.1.size, by show (w.heap.push o)[w.heap.size]? = some o; simp⟩
    · obtain ⟨h1, h2⟩ := h.2.2.1 p hp
      have hlt := (Array.getElem?_eq_some_iff.1 h2).1
      refine ⟨h1, ?_⟩
      show (w.heap.push o)[p.1]? = some p.2
      rw [Array.getElem?_push, if_neg (by omega)]; exact h2
  · intro a v hF
    obtain ⟨h1, h2⟩ := h.2.2.2 a v hF
    have hlt := cell_lt h1
    have hb : Bel w.heap.size w (w.alloc o) := (Bel.refl _ _).alloc (Nat.le_refl _) o
    refine ⟨by rw [hb.cell hlt]; exact h1, ?_⟩
    simp only [List.map_cons, List.mem_cons, not_or]
    exact ⟨by omega, h2⟩
theorem Has.tail {w0 w : World} {F : Addr → Value → Prop} {p : Nat × Obj} {L : List (Nat × Obj)} (h : Has w0 F (p :: L) w) : Has w0 F L w :=
  ⟨h.1, (List.nodup_cons.1 h.2.1).2, fun q hq => h.2.2.1 q (List.mem_cons_of_mem _ hq), fun a v hF => ⟨(h.2.2.2 a v hF).1, fun hm => (h.2.2.2 a v hF).2 (List.mem_cons_of_mem _ hm)⟩⟩

inductive Look : List (Nat × Obj) → Nat → Obj → Prop
  | here {L : List (Nat × Obj)} {b : Nat} {o : Obj} : Look ((b, o) :: L) b o
  | there {L : List (Nat × Obj)} {p : Nat × Obj} {b : Nat} {o : Obj} (h : Look L b o) : Look (p :: L) b o
theorem Look.mem {L : List (Nat × Obj)} {b : Nat} {o : Obj} (h : Look L b o) : (b, o) ∈ L := by
  induction h with
  | here => exact List.mem_cons_self
  | there _ ih => exact List.mem_cons_of_mem _ ih
/-- L' is L with block b turned into o', whatever it was (o) -/
inductive Turn : List (Nat × Obj) → Nat → Obj → Obj → List (Nat × Obj) → Prop
  | here {L : List (Nat × Obj)} {b : Nat} {o o' : Obj} : Turn ((b, o) :: L) b o o' ((b, o') :: L)
  | there {L L' : List (Nat × Obj)} {p : Nat × Obj} {b : Nat} {o o' : Obj} (h : Turn L b o o' L') : Turn (p :: L) b o o' (p :: L')
theorem Turn.look {L L' : List (Nat × Obj)} {b : Nat} {o o' : Obj} (h : Turn L b o o' L') : Look L b o := by
  induction h with
  | here => exact .here
  | there _ ih => exact .there ih
theorem Turn.names {L L' : List (Nat × Obj)} {b : Nat} {o o' : Obj} (h : Turn L b o o' L') : L'.map (·.1) = L.map (·.1) := by
  induction h with
  | here => rfl
  | there _ ih => simp [ih]
theorem Turn.mem {L L' : List (Nat × Obj)} {b : Nat} {o o' : Obj} (h : Turn L b o o' L') (hn : (L.map (·.1)).Nodup) : ∀ p ∈ L', p = (b, o') ∨ (p.1 ≠ b ∧ p ∈ L) := by
  induction h with
  | here =>
    intro p hp
    simp only [List.map_cons, List.nodup_cons] at hn
    rcases List.mem_cons.1 hp with rfl | hp
    · exact .inl rfl
    · exact .inr ⟨fun e => hn.1 (by rw [← e]; exact List.mem_map_of_mem hp), List.mem_cons_of_mem _ hp⟩
  | @there L L' q b o o' h ih =>
    intro p hp
    simp only [List.map_cons, List.nodup_cons] at hn
    rcases List.mem_cons.1 hp with rfl | hp
    · refine .inr ⟨fun e => hn.1 ?_, List.mem_cons_self⟩
      rw [e]; exact List.mem_map_of_mem (f := (·.1)) h.look.mem
    · rcases ih hn.2 p hp with rfl | ⟨h1, h2⟩
      · exact .inl rfl
      · exact .inr ⟨h1, List.mem_cons_of_mem _ h2⟩
theorem Has.look {w0 w : World} {F : Addr → Value → Prop} {L : List (Nat × Obj)} {b : Nat} {o : Obj} (h : Has w0 F L w) (hl : Look L b o) : w.heap[b]? = some o := (h.2.2.1 _ hl.mem).2
theorem Has.turn {w0 w w' : World} {F : Addr → Value → Prop} {L L' : List (Nat × Obj)} {b : Nat} {o o' : Obj} (h : Has w0 F L w) (ht : Turn L b o o' L')
    (hos : w'.os = w.os) (hta : w'.tape = w.tape) (hou : w'.output = w.output) (hsz : w'.heap.size = w.heap.size) (hb : w'.heap[b]? = some o') (hk : ∀ k, k ≠ b → w'.heap[k]? = w.heap[k]?) (hdr : w.drawn ≤ w'.drawn := by exact Nat.le_refl _) : Has w0 F L' w' := by
  have hge := (h.2.2.1 _ ht.look.mem).1
  refine ⟨⟨⟨hos.trans h.1.os, hta.trans h.1.tape, hou.trans h.1.output, by rw [hsz]; exact h.1.size, fun k hk' => (hk k (by simp at hge; omega)).trans (h.1.block k hk')⟩, Nat.le_trans h.1.drawn hdr⟩, by rw [ht.names]; exact h.2.1, ?_, ?_⟩
  · intro p hp
    rcases ht.mem h.2.1 p hp with rfl | ⟨h1, h2⟩
    · exact ⟨hge, hb⟩
    · exact ⟨(h.2.2.1 p h2).1, by rw [hk p.1 h1]; exact (h.2.2.1 p h2).2⟩
  · intro a v hF
    obtain ⟨h1, h2⟩ := h.2.2.2 a v hF
    have hne : a.block ≠ b := fun e => h2 (by rw [e]; exact List.mem_map_of_mem (f := (·.1)) ht.look.mem)
    exact ⟨by rw [World.cell?_of_block (w := w) (hk a.block hne)]; exact h1, by rw [ht.names]; exact h2⟩

/-! a call that only reads what was there, and hands back v -/
structure Gives (P : Program) (k : FuncId) (args : List Value) (w : World) (v : Value) : Prop where
  out : Calls P k args.toArray w fun e w' => e = .returned v ∧ Bel w.heap.size w w'
/-- .. and hands back something with R -/
structure GivesR (P : Program) (k : FuncId) (args : List Value) (w : World) (R : Value → World → Prop) : Prop where
  out : Calls P k args.toArray w fun e w' => ∃ v, e = .returned v ∧ R v w'

def retQ (P : Program) (fn : Func) (n : Nat) (R : Value → World → Prop) : Exit → (Nat → Value) → World → Prop
  | .normal, f, w => ∃ v, (results fn (Fa n f).tmps).run P w = .ok v w ∧ R v w
  | .ret, f, w => ∃ v, (results fn (Fa n f).tmps).run P w = .ok v w ∧ R v w
  | _, _, _ => False

theorem givesR_of {P : Program} {k : FuncId} {fn : Func} {c : Code} {n : Nat} {args : List Value} {w : World} {R : Value → World → Prop}
    (hf : P.funcs[k]? = some fn) (hb : fn.body = some c) (hn : fn.ntmps = n) (hl : args.length ≤ n)
    (h : cC P n c (retQ P fn n R) (argF args) (Has w (At w) [])) : GivesR P k args w R := by
  refine ⟨calls_of_wp hf hb ?_⟩
  rw [hn, Fa_args n args hl]
  refine wp_mono (h w (Has.start w)) ?_
  rintro e a w' ⟨f, rfl, hr⟩
  cases e <;> simp only [retQ] at hr
  · obtain ⟨v, h1, h2⟩ := hr; exact ⟨rfl, v, h1, v, rfl, h2⟩
  · obtain ⟨v, h1, h2⟩ := hr; exact ⟨rfl, v, h1, v, rfl, h2⟩

theorem gives_of {P : Program} {k : FuncId} {fn : Func} {c : Code} {n : Nat} {args : List Value} {w : World} {v : Value}
    (hf : P.funcs[k]? = some fn) (hb : fn.body = some c) (hn : fn.ntmps = n) (hl : args.length ≤ n)
    (h : cC P n c (retQ P fn n (fun v' w' => v' = v ∧ Bel w.heap.size w w')) (argF args) (Has w (At w) [])) : Gives P k args w v :=
  ⟨(givesR_of hf hb hn hl h).out.mono fun e w' ⟨v', he, h1, h2⟩ => by subst h1; exact ⟨he, h2⟩⟩

theorem results_one {P : Program} {fn : Func} {n t : Nat} {f : Nat → Value} (hr : fn.results = #[.tmp t]) (ht : t < n) (w : World) : (results fn (Fa n f).tmps).run P w = .ok (f t) w := by
  have : (Fa n f).tmps[t]?.getD undef = f t := by simp [Fa, ht]
  simp [results, hr, this]
theorem n_done {P : Program} {fn : Func} {n t : Nat} {f : Nat → Value} {v : Value} {w0 : World} {F : Addr → Value → Prop} {L : List (Nat × Obj)} (hr : fn.results = #[.tmp t]) (ht : t < n) (hv : f t = v) :
    nC (retQ P fn n (fun v' w' => v' = v ∧ Bel w0.heap.size w0 w'))   .ret f (Has w0 F L) :=
  fun w hw => ⟨f t, results_one hr ht w, hv, hw.1⟩

end Go.Proofs.Ytmkboljfbmlebaa
