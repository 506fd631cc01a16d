/- What knotUnties_holds stands on, part 1: each part says what it proves. No condition beside those that it names. -/
import Derived.Deep.Quiet
import Derived.Below
import Derived.KernelRfl
import Derived.Tactics
import Derived.Laws.World
import Derived.Laws.Rows
import Derived.Laws.AppendOwn
import Derived.LoopN
import Derived.Deep.LoopGhost
import Derived.Laws.Tables
import Derived.Laws.CopyRow
import Derived.WalkKit
/- The small logic in which this seat's contracts are proved: frames as functions, classes of worlds, one law an operation. No condition. -/
namespace Go.Proofs.Ytmkboljfbmlebaa
open Go.RowKit
set_option linter.unusedSimpArgs false
set_option linter.unusedVariables false

/-! frames -/
def upd (f : Nat → Value) (d : Nat) (v : Value) : Nat → Value := fun i => bif Nat.beq i d then v else f i
def updo (f : Nat → Value) : Option Nat → Value → (Nat → Value)
  | some d, v => upd f d v
  | none, _ => f
def Fa (n : Nat) (f : Nat → Value) : Act := { tmps := Array.ofFn (n := n) fun i => f i.val, defers := [] }
def ev (f : Nat → Value) : Operand → Value
  | .tmp t => f t
  | .const v => v
  | .global g => .pointer (some ⟨g, 0, none⟩)
  | .func k => .func (.func k) #[] #[]
def argF (l : List Value) : Nat → Value := fun i => l.getD i undef
def yf (ops : Array Oper) (f : Nat → Value) (j : Nat) : Option Bool :=
  match (ops[j]?).bind (·.dst) with
  | some d => (match f d with | .bool b => some b | _ => none)
  | none => none

def opndB (n : Nat) : Operand → Bool
  | .tmp t => decide (t < n)
  | _ => true
def operB (n : Nat) (ops : Array Oper) (o : Oper) : Bool :=
  o.op.operands.all (opndB n) && (match o.op with | .select .. => false | _ => true) &&
  (match o.guard with | none => true | some (j, _) => match (ops[j]?).bind (·.dst) with | some d => decide (d < n) | none => true)
def opsB (n : Nat) (ops : Array Oper) : Bool := ops.toList.all (operB n ops)

theorem upd_same (f : Nat → Value) (d : Nat) (v : Value) : upd f d v d = v := by simp [upd]
theorem upd_other (f : Nat → Value) {d i : Nat} (v : Value) (h : i ≠ d) : upd f d v i = f i := by
  have : Nat.beq i d = false := by
    cases h' : Nat.beq i d
    · rfl
    · exact absurd (Nat.eq_of_beq_eq_true h') h
  simp [upd, this]
theorem upd_self {f : Nat → Value} {d : Nat} {v : Value} (h : f d = v) : upd f d v = f := by
  funext i
  by_cases hi : i = d
  · subst hi; rw [upd_same]; exact h.symm
  · exact upd_other f v hi

theorem Fa_put (n : Nat) (f : Nat → Value) (d : Option Nat) (v : Value) : (Fa n f).put d v = Fa n (updo f d v) := by
  cases d with
  | none => rfl
  | some d =>
    simp only [Act.put, Fa, updo, Act.mk.injEq, and_true]
    apply Array.ext
    · simp
    · intro i h1 h2
      simp only [Array.size_setIfInBounds, Array.size_ofFn] at h1
      rw [Array.getElem_setIfInBounds (by simpa using h1)]
      simp only [Array.getElem_ofFn]
      by_cases hi : d = i
      · subst hi; simp [upd]
      · rw [if_neg hi, upd_other f v (fun h => hi h.symm)]

theorem Fa_eval {n : Nat} {f : Nat → Value} {x : Operand} (h : opndB n x = true) : (Fa n f).eval x = ev f x := by
  cases x with
  | tmp t =>
    simp only [opndB, decide_eq_true_eq] at h
    simp [Act.eval, Fa, ev, Array.getD, h]
  | const v => rfl
  | global g => rfl
  | func k => rfl

theorem Fa_wanted {n : Nat} {ops : Array Oper} {o : Oper} {f : Nat → Value} (h : operB n ops o = true) :
    Region.wanted o (yielded ops (Fa n f).tmps) = Region.wanted o (yf ops f) := by
  simp only [operB, Bool.and_eq_true] at h
  obtain ⟨_, hg⟩ := h
  unfold Region.wanted
  split
  · rfl
  · rename_i j want hgd
    rw [hgd] at hg
    simp only at hg
    congr 1
    unfold yielded yf
    cases hd : (ops[j]?).bind (·.dst) with
    | none => rfl
    | some d =>
      rw [hd] at hg
      simp only [decide_eq_true_eq] at hg
      have : ((Array.ofFn (n := n) fun i => f i.val)[d]? : Option Value) = some (f d) := by simp [hg]
      simp only [Option.bind_some, Fa, this]
      cases f d <;> rfl

theorem operB_sel {n : Nat} {ops : Array Oper} {o : Oper} (h : operB n ops o = true) : ∀ cs b, o.op ≠ .select cs b := by
  intro cs b e
  simp only [operB, Bool.and_eq_true] at h
  have := h.1.2
  rw [e] at this
  cases this

theorem Fa_exec {n : Nat} {ops : Array Oper} {o : Oper} {f : Nat → Value} (h : operB n ops o = true) :
    execOp (Fa n f).eval o = execOp (ev f) o := by
  refine execOp_congr o (operB_sel h) fun x hx => Fa_eval ?_
  simp only [operB, Bool.and_eq_true] at h
  have h1 := h.1.1
  rw [Array.all_eq_true_iff_forall_mem] at h1
  exact h1 x hx

theorem Fa_args (n : Nat) (l : List Value) (h : l.length ≤ n) : l.toArray ++ Array.replicate (n - l.toArray.size) undef = (Fa n (argF l)).tmps := by
  apply Array.ext
  · simp [Fa]; omega
  · intro i h1 h2
    simp only [Fa, Array.getElem_ofFn, argF]
    rw [Array.getElem_append]
    split
    · rename_i hi
      simp at hi ⊢
      simp [List.getD, hi]
    · rename_i hi
      simp at hi ⊢
      simp [List.getD, List.getElem?_eq_none hi]

/-! operations -/
def opk (P : Program) (o : Oper) (f : Nat → Value) (w : World) (K : (Nat → Value) → World → Prop) : Prop :=
  match (execOp (ev f) o).run P w with
  | .ok (.value v) w' => K (updo f o.dst v) w'
  | .ok .skip w' => K (updo f o.dst undef) w'
  | .ok (.enter g args) w' => Calls P g args w' fun e w'' => ∃ v, e = .returned v ∧ K (updo f o.dst v) w''
  | _ => False

def sw (P : Program) (ops : Array Oper) (K : (Nat → Value) → World → Prop) : List Oper → (Nat → Value) → World → Prop
  | [], f, w => K f w
  | o :: rest, f, w => if Region.wanted o (yf ops f) then opk P o f w (sw P ops K rest) else sw P ops K rest (updo f o.dst undef) w

theorem sw_wpList {P : Program} {n : Nat} {ops : Array Oper} {K : (Nat → Value) → World → Prop} {Q : Exit → Act → World → Prop}
    (hK : ∀ f w, K f w → Q .normal (Fa n f) w) : ∀ (l : List Oper), l.all (operB n ops) = true → ∀ (f : Nat → Value) (w : World), sw P ops K l f w → wpList P ops Q l (Fa n f) w
  | [], _, _, _, h => hK _ _ h
  | o :: rest, hB, f, w, h => by
    simp only [List.all_cons, Bool.and_eq_true] at hB
    obtain ⟨ho, hr⟩ := hB
    unfold wpList
    rw [Fa_wanted ho]
    unfold sw at h
    split
    · rename_i hw
      rw [if_pos hw] at h
      refine Or.inl ?_
      unfold Oper.wp
      rw [Fa_exec ho]
      unfold opk at h
      generalize (execOp (ev f) o).run P w = r at h
      cases r with
      | ok nx w' =>
        cases nx <;> simp only at h <;> simp only [Oper.upon]
        case value v => rw [Fa_put]; exact sw_wpList hK rest hr _ _ h
        case skip => rw [Fa_put]; exact sw_wpList hK rest hr _ _ h
        case enter g args =>
          refine Calls.mono h fun e w'' ⟨v, he, hk⟩ => ?_
          subst he
          show wpList P ops Q rest ((Fa n f).put o.dst v) w''
          rw [Fa_put]
          exact sw_wpList hK rest hr _ _ hk
      | halt x w' => exact h.elim
    · rename_i hw
      rw [if_neg hw] at h
      rw [Fa_put]
      exact sw_wpList hK rest hr _ _ h

def qw (P : Program) (ops : Array Oper) (C : World → Prop) (K : (Nat → Value) → Prop) : List Oper → (Nat → Value) → Prop
  | [], f => K f
  | o :: rest, f => if Region.wanted o (yf ops f) then ∃ v, (∀ w, C w → Oper.quietUpon P C w v ((execOp (ev f) o).run P w)) ∧ qw P ops C K rest (updo f o.dst v)
    else qw P ops C K rest (updo f o.dst undef)

theorem qw_wpQuiet {P : Program} {n : Nat} {ops : Array Oper} {C : World → Prop} {K : (Nat → Value) → Prop} {Q : Act → Prop}
    (hK : ∀ f, K f → Q (Fa n f)) : ∀ (l : List Oper), l.all (operB n ops) = true → ∀ (f : Nat → Value), qw P ops C K l f → wpQuiet P ops C Q l (Fa n f)
  | [], _, _, h => hK _ h
  | o :: rest, hB, f, h => by
    simp only [List.all_cons, Bool.and_eq_true] at hB
    obtain ⟨ho, hr⟩ := hB
    unfold wpQuiet
    rw [Fa_wanted ho]
    unfold qw at h
    split
    · rename_i hw
      rw [if_pos hw] at h
      obtain ⟨v, h1, h2⟩ := h
      refine ⟨v, fun w hw => ?_, ?_⟩
      · unfold Oper.quietAt; rw [Fa_exec ho]; exact h1 w hw
      · rw [Fa_put]; exact qw_wpQuiet hK rest hr _ h2
    · rename_i hw
      rw [if_neg hw] at h
      rw [Fa_put]
      exact qw_wpQuiet hK rest hr _ h

/-! code -/
def cw (P : Program) (n : Nat) (c : Code) (Q : Exit → (Nat → Value) → World → Prop) (f : Nat → Value) (w : World) : Prop :=
  c.wp P (fun e a w => ∃ f, a = Fa n f ∧ Q e f w) (Fa n f) w
def cC (P : Program) (n : Nat) (c : Code) (Q : Exit → (Nat → Value) → World → Prop) (f : Nat → Value) (C : World → Prop) : Prop := ∀ w, C w → cw P n c Q f w
def sC (P : Program) (ops : Array Oper) (K : (Nat → Value) → World → Prop) (l : List Oper) (f : Nat → Value) (C : World → Prop) : Prop := ∀ w, C w → sw P ops K l f w
def nC (Q : Exit → (Nat → Value) → World → Prop) (e : Exit) (f : Nat → Value) (C : World → Prop) : Prop := ∀ w, C w → Q e f w
def thenQ (K : (Nat → Value) → World → Prop) (Q : Exit → (Nat → Value) → World → Prop) : Exit → (Nat → Value) → World → Prop
  | .normal, f, w => K f w
  | e, f, w => Q e f w
def inB (id : Nat) (Q : Exit → (Nat → Value) → World → Prop) : Exit → (Nat → Value) → World → Prop
  | .exit id', f, w => if id' = id then Q .normal f w else Q (.exit id') f w
  | e, f, w => Q e f w

section
variable {P : Program} {n : Nat} {Q : Exit → (Nat → Value) → World → Prop} {f : Nat → Value} {C : World → Prop}

theorem cw_mono {c : Code} {Q' : Exit → (Nat → Value) → World → Prop} {w : World} (h : cw P n c Q f w) (hq : ∀ e f w, Q e f w → Q' e f w) : cw P n c Q' f w :=
  wp_mono h fun _ _ _ ⟨g, hg, hr⟩ => ⟨g, hg, hq _ _ _ hr⟩

theorem c_seq {x y : Code} (h : cC P n x (thenQ (fun f w => cw P n y Q f w) Q) f C) : cC P n (.seq x y) Q f C := by
  intro w hw
  refine wp_seq (wp_mono (h w hw) ?_)
  rintro e a w' ⟨g, rfl, hr⟩
  cases e <;> first
    | exact hr
    | exact ⟨g, rfl, hr⟩
theorem c_skip (h : nC Q .normal f C) : cC P n .skip Q f C := fun w hw => wp_skip ⟨f, rfl, h w hw⟩
theorem c_ret (h : nC Q .ret f C) : cC P n .ret Q f C := fun w hw => wp_ret ⟨f, rfl, h w hw⟩
theorem c_exit {id : Nat} (h : nC Q (.exit id) f C) : cC P n (.exit id) Q f C := fun w hw => wp_exit ⟨f, rfl, h w hw⟩
theorem c_block {id : Nat} {c : Code} (h : cC P n c (inB id Q) f C) : cC P n (.block id c) Q f C := by
  intro w hw
  refine wp_block (wp_mono (h w hw) ?_)
  rintro e a w' ⟨g, rfl, hr⟩
  cases e
  case exit id' =>
    simp only [inB] at hr
    simp only [Exit.inBlock]
    split
    · rename_i e; rw [if_pos e] at hr; exact ⟨g, rfl, hr⟩
    · rename_i e; rw [if_neg e] at hr; exact ⟨g, rfl, hr⟩
  all_goals exact ⟨g, rfl, hr⟩
theorem c_condT {c : Operand} {x y : Code} (hB : opndB n c = true) (hc : ev f c = .bool true) (h : cC P n x Q f C) : cC P n (.cond c x y) Q f C :=
  fun w hw => wp_cond_true ((Fa_eval hB).trans hc) (h w hw)
theorem c_condF {c : Operand} {x y : Code} (hB : opndB n c = true) (hc : ev f c = .bool false) (h : cC P n y Q f C) : cC P n (.cond c x y) Q f C :=
  fun w hw => wp_cond_false ((Fa_eval hB).trans hc) (h w hw)
theorem c_cond {c : Operand} {x y : Code} {b : Bool} (hB : opndB n c = true) (hc : ev f c = .bool b) (ht : b = true → cC P n x Q f C) (hf : b = false → cC P n y Q f C) : cC P n (.cond c x y) Q f C := by
  cases b
  · exact c_condF hB hc (hf rfl)
  · exact c_condT hB hc (ht rfl)
theorem c_loop {σ : Type} {body : Code} (I : σ → (Nat → Value) → Prop) (D : σ → World → Prop) (μ : σ → Nat) (s0 : σ) (h0 : I s0 f) (hD : ∀ w, C w → D s0 w)
    (round : ∀ s f, I s f → cC P n body (thenQ (fun f' w' => ∃ s', I s' f' ∧ D s' w' ∧ μ s' < μ s) Q) f (D s)) : cC P n (.loop body) Q f C := by
  intro w hw
  refine wp_loop_ghost (fun m a w => ∃ f s, a = Fa n f ∧ I s f ∧ D s w ∧ μ s = m) (μ s0) ⟨f, s0, rfl, h0, hD w hw, rfl⟩ ?_
  rintro m a w ⟨f, s, rfl, hI, hs, rfl⟩
  refine wp_mono (round s f hI w hs) ?_
  rintro e a' w' ⟨g, rfl, hr⟩
  cases e
  case normal =>
    obtain ⟨s', h1, h2, h3⟩ := hr
    exact ⟨μ s', h3, g, s', rfl, h1, h2, rfl⟩
  all_goals exact ⟨g, rfl, hr⟩

/-- a loop that is walked round by round -/
def rw_ (P : Program) (n : Nat) (body : Code) (Q : Exit → (Nat → Value) → World → Prop) : Nat → (Nat → Value) → World → Prop
  | 0, _, _ => False
  | k + 1, f, w => cw P n body (thenQ (fun f' w' => rw_ P n body Q k f' w') Q) f w
def rC (P : Program) (n : Nat) (body : Code) (Q : Exit → (Nat → Value) → World → Prop) (k : Nat) (f : Nat → Value) (C : World → Prop) : Prop := ∀ w, C w → rw_ P n body Q k f w
theorem rw_rounds {body : Code} : ∀ (k : Nat) (f : Nat → Value) (w : World), rw_ P n body Q k f w → Code.rounds P body (fun e a w => ∃ f, a = Fa n f ∧ Q e f w) k (Fa n f) w
  | 0, _, _, h => h.elim
  | k + 1, f, w, h => by
    rw [rounds_succ]
    refine wp_mono h ?_
    rintro e a' w' ⟨g, rfl, hr⟩
    cases e
    case normal => exact rw_rounds k g w' hr
    all_goals exact ⟨g, rfl, hr⟩
theorem c_rounds {body : Code} (k : Nat) (h : rC P n body Q k f C) : cC P n (.loop body) Q f C := fun w hw => wp_loop_rounds k (rw_rounds k f w (h w hw))
theorem r_succ {body : Code} {k : Nat} (h : cC P n body (thenQ (fun f' w' => rw_ P n body Q k f' w') Q) f C) : rC P n body Q (k + 1) f C := h

/-! what stands behind -/
theorem n_then {y : Code} {Q' : Exit → (Nat → Value) → World → Prop} (h : cC P n y Q f C) : nC (thenQ (fun f w => cw P n y Q f w) Q') .normal f C := h
theorem n_thenR {body : Code} {k : Nat} {Q' : Exit → (Nat → Value) → World → Prop} (h : rC P n body Q k f C) : nC (thenQ (fun f w => rw_ P n body Q k f w) Q') .normal f C := h
theorem n_ret {K : (Nat → Value) → World → Prop} (h : nC Q .ret f C) : nC (thenQ K Q) .ret f C := h
theorem n_exit {K : (Nat → Value) → World → Prop} {id : Nat} (h : nC Q (.exit id) f C) : nC (thenQ K Q) (.exit id) f C := h
theorem n_bnormal {id : Nat} (h : nC Q .normal f C) : nC (inB id Q) .normal f C := h
theorem n_bret {id : Nat} (h : nC Q .ret f C) : nC (inB id Q) .ret f C := h
theorem n_bhere {id : Nat} (h : nC Q .normal f C) : nC (inB id Q) (.exit id) f C := fun w hw => by simp only [inB, if_true]; exact h w hw
theorem n_bpast {id id' : Nat} (hne : Nat.beq id' id = false) (h : nC Q (.exit id') f C) : nC (inB id Q) (.exit id') f C := fun w hw => by
  have : ¬ id' = id := fun e => by subst e; simp at hne
  simp only [inB, if_neg this]; exact h w hw

theorem n_round {σ : Type} {I : σ → (Nat → Value) → Prop} {D : σ → World → Prop} {μ : σ → Nat} {s : σ} (s' : σ) (h1 : I s' f) (h2 : ∀ w, C w → D s' w) (h3 : μ s' < μ s) :
    nC (thenQ (fun f' w' => ∃ s', I s' f' ∧ D s' w' ∧ μ s' < μ s) Q) .normal f C := fun w hw => ⟨s', h1, h2 w hw, h3⟩

/-- a piece of code, and behind it only what is named of its frame -/
theorem c_cut {x y : Code} (J : (Nat → Value) → Prop) (C' : World → Prop) (h1 : cC P n x (thenQ (fun f' w' => J f' ∧ C' w') Q) f C) (h2 : ∀ f', J f' → cC P n y Q f' C') : cC P n (.seq x y) Q f C :=
  c_seq fun w hw => cw_mono (h1 w hw) fun e f' w' hq => by
    cases e <;> first
      | exact h2 f' hq.1 w' hq.2
      | exact hq
theorem c_cutN {x : Code} (J : (Nat → Value) → Prop) (C' : World → Prop) (h1 : cC P n x (thenQ (fun f' w' => J f' ∧ C' w') Q) f C) (h2 : ∀ f', J f' → nC Q .normal f' C') : cC P n x Q f C :=
  fun w hw => cw_mono (h1 w hw) fun e f' w' hq => by
    cases e <;> first
      | exact h2 f' hq.1 w' hq.2
      | exact hq
theorem n_cut {J : (Nat → Value) → Prop} {C' : World → Prop} (h1 : J f) (h2 : ∀ w, C w → C' w) : nC (thenQ (fun f' w' => J f' ∧ C' w') Q) .normal f C := fun w hw => ⟨h1, h2 w hw⟩

/-! regions -/
theorem r_list {id : Nat} {l : List Oper} (hB : opsB n l.toArray = true) (h : sC P l.toArray (fun f w => Q .normal f w) l f C) : cC P n (.region id l.toArray false) Q f C :=
  fun w hw => wp_region_lit (sw_wpList (fun f w hq => ⟨f, rfl, hq⟩) l (by simpa [opsB] using hB) f w (h w hw))
theorem r_seq {id : Nat} {l : List Oper} {y : Code} (hB : opsB n l.toArray = true) (h : sC P l.toArray (fun f w => cw P n y Q f w) l f C) : cC P n (.seq (.region id l.toArray false) y) Q f C :=
  c_seq (r_list hB h)
theorem s_nil {ops : Array Oper} {y : Code} (h : cC P n y Q f C) : sC P ops (fun f w => cw P n y Q f w) [] f C := h
theorem s_end {ops : Array Oper} (h : nC Q .normal f C) : sC P ops (fun f w => Q .normal f w) [] f C := h
theorem d_list {id : Nat} {l : List Oper} (hm : P.follows .mixedOrders = true) (hL : Region.lexB .any l.toArray = true) (hC : ∀ w, C w → C w.drew) (hB : opsB n l.toArray = true)
    (h : qw P l.toArray C (fun f => nC Q .normal f C) l f) : cC P n (.region id l.toArray true) Q f C :=
  fun w hw => wp_region_quiet (C := C) hm hL (hC w hw) (by
    have := qw_wpQuiet (P := P) (C := C) (Q := fun a' => ∀ w', C w' → ∃ f, a' = Fa n f ∧ Q .normal f w') (fun f hK w' hw' => ⟨f, rfl, hK w' hw'⟩) l (by simpa [opsB] using hB) f h
    simpa using this)
theorem d_seq {id : Nat} {l : List Oper} {y : Code} (hm : P.follows .mixedOrders = true) (hL : Region.lexB .any l.toArray = true) (hC : ∀ w, C w → C w.drew) (hB : opsB n l.toArray = true)
    (h : qw P l.toArray C (fun f => cC P n y Q f C) l f) : cC P n (.seq (.region id l.toArray true) y) Q f C :=
  c_seq (d_list hm hL hC hB h)
theorem q_nil {ops : Array Oper} {y : Code} (h : cC P n y Q f C) : qw P ops C (fun f => cC P n y Q f C) [] f := h
theorem q_end {ops : Array Oper} (h : nC Q .normal f C) : qw P ops C (fun f => nC Q .normal f C) [] f := h
end

/-- what was there is there, and no draw is taken back -/
structure Bel (B : Nat) (w w' : World) : Prop extends Below B w w' where
  drawn : w.drawn ≤ w'.drawn
theorem Bel.refl (B : Nat) (w : World) : Bel B w w := ⟨Below.refl B w, Nat.le_refl _⟩
theorem Bel.trans {B : Nat} {a b c : World} (h : Bel B a b) (k : Bel B b c) : Bel B a c := ⟨h.toBelow.trans k.toBelow, Nat.le_trans h.drawn k.drawn⟩
theorem Bel.mono {B B' : Nat} {w w' : World} (h : Bel B w w') (hB : B' ≤ B) : Bel B' w w' := ⟨h.toBelow.mono hB, h.drawn⟩
theorem Bel.drew {B : Nat} {a w : World} (h : Bel B a w) : Bel B a w.drew := ⟨h.toBelow.drew, Nat.le_succ_of_le h.drawn⟩
theorem Bel.alloc {B : Nat} {a w : World} (h : Bel B a w) (hB : B ≤ w.heap.size) (o : Obj) : Bel B a (w.alloc o) := ⟨h.toBelow.alloc hB o, h.drawn⟩
theorem Bel.cell {B : Nat} {w w' : World} (h : Bel B w w') {p : Addr} (hp : p.block < B) : w'.cell? p = w.cell? p := h.toBelow.cell hp

/-! worlds: what was there when the call began is as it was; what the call itself has laid is known block by block -/
def At (w : World) : Addr → Value → Prop := fun a v => w.cell? a = some v
/-- F: cells that are known, in no block of L -/
def Has (w0 : World) (F : Addr → Value → Prop) (L : List (Nat × Obj)) (w : World) : Prop :=
  Bel w0.heap.size w0 w ∧ (L.map (·.1)).Nodup ∧ (∀ p ∈ L, w0.heap.size ≤ p.1 ∧ w.heap[p.1]? = some p.2) ∧ ∀ a v, F a v → w.cell? a = some v ∧ a.block ∉ L.map (·.1)

theorem Has.start (w : World) : Has w (At w) [] w := ⟨Bel.refl _ _, by simp, by simp, fun a v h => ⟨h, by simp⟩⟩
theorem cell_lt {w : World} {a : Addr} {v : Value} (h : w.cell? a = some v) : a.block < w.heap.size := by
  rcases Nat.lt_or_ge a.block w.heap.size with h' | h'
  · exact h'
  · simp [World.cell?, Array.getElem?_eq_none h'] at h
theorem Has.below {w0 w w' : World} {F : Addr → Value → Prop} {L : List (Nat × Obj)} (h : Has w0 F L w) (hb : Bel w.heap.size w w') : Has w0 F L w' :=
  ⟨h.1.trans (hb.mono h.1.size), h.2.1, fun p hp => (by
    obtain ⟨h1, h2⟩ := h.2.2.1 p hp
    refine ⟨h1, ?_⟩
    rw [hb.block p.1 (Array.getElem?_eq_some_iff.1 h2).1]; exact h2), fun a v hF => (by
    obtain ⟨h1, h2⟩ := h.2.2.2 a v hF
    exact ⟨by rw [hb.cell (cell_lt h1)]; exact h1, h2⟩)⟩
theorem Has.drew {w0 w : World} {F : Addr → Value → Prop} {L : List (Nat × Obj)} (h : Has w0 F L w) : Has w0 F L w.drew := h.below ((Bel.refl _ _).drew)
/-- what is known more behind a call -/
def More (F F' : Addr → Value → Prop) : Prop := ∀ a v, F a v → F' a v
def Out (L : List (Nat × Obj)) (w : World) : Addr → Value → Prop := fun a v => w.cell? a = some v ∧ a.block ∉ L.map (·.1)
theorem Has.learn {w0 w w' : World} {F : Addr → Value → Prop} {L : List (Nat × Obj)} (h : Has w0 F L w) (hb : Bel w.heap.size w w') : Has w0 (Out L w') L w' ∧ More F (Out L w') :=
  ⟨⟨(h.below hb).1, h.2.1, (h.below hb).2.2.1, fun a v hF => hF⟩, fun a v hF => (h.below hb).2.2.2 a v hF⟩
theorem Has.at {w0 w : World} {F : Addr → Value → Prop} {L : List (Nat × Obj)} (h : Has w0 F L w) : More F (At w) := fun a v hF => (h.2.2.2 a v hF).1
theorem Has.alloc {w0 w : World} {F : Addr → Value → Prop} {L : List (Nat × Obj)} (h : Has w0 F L w) (o : Obj) : Has w0 F ((w.heap.size, o) :: L) (w.alloc o) := by
  refine ⟨h.1.alloc h.1.size o, ?_, ?_, ?_⟩
  · simp only [List.map_cons, List.nodup_cons]
    refine ⟨fun hm => ?_, h.2.1⟩
    obtain ⟨p, hp, he⟩ := List.mem_map.1 hm
    have := (Array.getElem?_eq_some_iff.1 (h.2.2.1 p hp).2).1
    omega
  · intro p hp
    rcases List.mem_cons.1 hp with rfl | hp
    · exact ⟨h.1.size, by show (w.heap.push o)[w.heap.size]? = some o; simp⟩
    · obtain ⟨h1, h2⟩ := h.2.2.1 p hp
      have hlt := (Array.getElem?_eq_some_iff.1 h2).1
      refine ⟨h1, ?_⟩
      show (w.heap.push o)[p.1]? = some p.2
      rw [Array.getElem?_push, if_neg (by omega)]; exact h2
  · intro a v hF
    obtain ⟨h1, h2⟩ := h.2.2.2 a v hF
    have hlt := cell_lt h1
    have hb : Bel w.heap.size w (w.alloc o) := (Bel.refl _ _).alloc (Nat.le_refl _) o
    refine ⟨by rw [hb.cell hlt]; exact h1, ?_⟩
    simp only [List.map_cons, List.mem_cons, not_or]
    exact ⟨by omega, h2⟩
theorem Has.tail {w0 w : World} {F : Addr → Value → Prop} {p : Nat × Obj} {L : List (Nat × Obj)} (h : Has w0 F (p :: L) w) : Has w0 F L w :=
  ⟨h.1, (List.nodup_cons.1 h.2.1).2, fun q hq => h.2.2.1 q (List.mem_cons_of_mem _ hq), fun a v hF => ⟨(h.2.2.2 a v hF).1, fun hm => (h.2.2.2 a v hF).2 (List.mem_cons_of_mem _ hm)⟩⟩

inductive Look : List (Nat × Obj) → Nat → Obj → Prop
  | here {L : List (Nat × Obj)} {b : Nat} {o : Obj} : Look ((b, o) :: L) b o
  | there {L : List (Nat × Obj)} {p : Nat × Obj} {b : Nat} {o : Obj} (h : Look L b o) : Look (p :: L) b o
theorem Look.mem {L : List (Nat × Obj)} {b : Nat} {o : Obj} (h : Look L b o) : (b, o) ∈ L := by
  induction h with
  | here => exact List.mem_cons_self
  | there _ ih => exact List.mem_cons_of_mem _ ih
/-- L' is L with block b turned into o', whatever it was (o) -/
inductive Turn : List (Nat × Obj) → Nat → Obj → Obj → List (Nat × Obj) → Prop
  | here {L : List (Nat × Obj)} {b : Nat} {o o' : Obj} : Turn ((b, o) :: L) b o o' ((b, o') :: L)
  | there {L L' : List (Nat × Obj)} {p : Nat × Obj} {b : Nat} {o o' : Obj} (h : Turn L b o o' L') : Turn (p :: L) b o o' (p :: L')
theorem Turn.look {L L' : List (Nat × Obj)} {b : Nat} {o o' : Obj} (h : Turn L b o o' L') : Look L b o := by
  induction h with
  | here => exact .here
  | there _ ih => exact .there ih
theorem Turn.names {L L' : List (Nat × Obj)} {b : Nat} {o o' : Obj} (h : Turn L b o o' L') : L'.map (·.1) = L.map (·.1) := by
  induction h with
  | here => rfl
  | there _ ih => simp [ih]
theorem Turn.mem {L L' : List (Nat × Obj)} {b : Nat} {o o' : Obj} (h : Turn L b o o' L') (hn : (L.map (·.1)).Nodup) : ∀ p ∈ L', p = (b, o') ∨ (p.1 ≠ b ∧ p ∈ L) := by
  induction h with
  | here =>
    intro p hp
    simp only [List.map_cons, List.nodup_cons] at hn
    rcases List.mem_cons.1 hp with rfl | hp
    · exact .inl rfl
    · exact .inr ⟨fun e => hn.1 (by rw [← e]; exact List.mem_map_of_mem hp), List.mem_cons_of_mem _ hp⟩
  | @there L L' q b o o' h ih =>
    intro p hp
    simp only [List.map_cons, List.nodup_cons] at hn
    rcases List.mem_cons.1 hp with rfl | hp
    · refine .inr ⟨fun e => hn.1 ?_, List.mem_cons_self⟩
      rw [e]; exact List.mem_map_of_mem (f := (·.1)) h.look.mem
    · rcases ih hn.2 p hp with rfl | ⟨h1, h2⟩
      · exact .inl rfl
      · exact .inr ⟨h1, List.mem_cons_of_mem _ h2⟩
theorem Has.look {w0 w : World} {F : Addr → Value → Prop} {L : List (Nat × Obj)} {b : Nat} {o : Obj} (h : Has w0 F L w) (hl : Look L b o) : w.heap[b]? = some o := (h.2.2.1 _ hl.mem).2
theorem Has.turn {w0 w w' : World} {F : Addr → Value → Prop} {L L' : List (Nat × Obj)} {b : Nat} {o o' : Obj} (h : Has w0 F L w) (ht : Turn L b o o' L')
    (hos : w'.os = w.os) (hta : w'.tape = w.tape) (hou : w'.output = w.output) (hsz : w'.heap.size = w.heap.size) (hb : w'.heap[b]? = some o') (hk : ∀ k, k ≠ b → w'.heap[k]? = w.heap[k]?) (hdr : w.drawn ≤ w'.drawn := by exact Nat.le_refl _) : Has w0 F L' w' := by
  have hge := (h.2.2.1 _ ht.look.mem).1
  refine ⟨⟨⟨hos.trans h.1.os, hta.trans h.1.tape, hou.trans h.1.output, by rw [hsz]; exact h.1.size, fun k hk' => (hk k (by simp at hge; omega)).trans (h.1.block k hk')⟩, Nat.le_trans h.1.drawn hdr⟩, by rw [ht.names]; exact h.2.1, ?_, ?_⟩
  · intro p hp
    rcases ht.mem h.2.1 p hp with rfl | ⟨h1, h2⟩
    · exact ⟨hge, hb⟩
    · exact ⟨(h.2.2.1 p h2).1, by rw [hk p.1 h1]; exact (h.2.2.1 p h2).2⟩
  · intro a v hF
    obtain ⟨h1, h2⟩ := h.2.2.2 a v hF
    have hne : a.block ≠ b := fun e => h2 (by rw [e]; exact List.mem_map_of_mem (f := (·.1)) ht.look.mem)
    exact ⟨by rw [World.cell?_of_block (w := w) (hk a.block hne)]; exact h1, by rw [ht.names]; exact h2⟩

/-! a call that only reads what was there, and hands back v -/
structure Gives (P : Program) (k : FuncId) (args : List Value) (w : World) (v : Value) : Prop where
  out : Calls P k args.toArray w fun e w' => e = .returned v ∧ Bel w.heap.size w w'
/-- .. and hands back something with R -/
structure GivesR (P : Program) (k : FuncId) (args : List Value) (w : World) (R : Value → World → Prop) : Prop where
  out : Calls P k args.toArray w fun e w' => ∃ v, e = .returned v ∧ R v w'

def retQ (P : Program) (fn : Func) (n : Nat) (R : Value → World → Prop) : Exit → (Nat → Value) → World → Prop
  | .normal, f, w => ∃ v, (results fn (Fa n f).tmps).run P w = .ok v w ∧ R v w
  | .ret, f, w => ∃ v, (results fn (Fa n f).tmps).run P w = .ok v w ∧ R v w
  | _, _, _ => False

theorem givesR_of {P : Program} {k : FuncId} {fn : Func} {c : Code} {n : Nat} {args : List Value} {w : World} {R : Value → World → Prop}
    (hf : P.funcs[k]? = some fn) (hb : fn.body = some c) (hn : fn.ntmps = n) (hl : args.length ≤ n)
    (h : cC P n c (retQ P fn n R) (argF args) (Has w (At w) [])) : GivesR P k args w R := by
  refine ⟨calls_of_wp hf hb ?_⟩
  rw [hn, Fa_args n args hl]
  refine wp_mono (h w (Has.start w)) ?_
  rintro e a w' ⟨f, rfl, hr⟩
  cases e <;> simp only [retQ] at hr
  · obtain ⟨v, h1, h2⟩ := hr; exact ⟨rfl, v, h1, v, rfl, h2⟩
  · obtain ⟨v, h1, h2⟩ := hr; exact ⟨rfl, v, h1, v, rfl, h2⟩

theorem gives_of {P : Program} {k : FuncId} {fn : Func} {c : Code} {n : Nat} {args : List Value} {w : World} {v : Value}
    (hf : P.funcs[k]? = some fn) (hb : fn.body = some c) (hn : fn.ntmps = n) (hl : args.length ≤ n)
    (h : cC P n c (retQ P fn n (fun v' w' => v' = v ∧ Bel w.heap.size w w')) (argF args) (Has w (At w) [])) : Gives P k args w v :=
  ⟨(givesR_of hf hb hn hl h).out.mono fun e w' ⟨v', he, h1, h2⟩ => by subst h1; exact ⟨he, h2⟩⟩

theorem results_one {P : Program} {fn : Func} {n t : Nat} {f : Nat → Value} (hr : fn.results = #[.tmp t]) (ht : t < n) (w : World) : (results fn (Fa n f).tmps).run P w = .ok (f t) w := by
  have : (Fa n f).tmps[t]?.getD undef = f t := by simp [Fa, ht]
  simp [results, hr, this]
theorem n_done {P : Program} {fn : Func} {n t : Nat} {f : Nat → Value} {v : Value} {w0 : World} {F : Addr → Value → Prop} {L : List (Nat × Obj)} (hr : fn.results = #[.tmp t]) (ht : t < n) (hv : f t = v) :
    nC (retQ P fn n (fun v' w' => v' = v ∧ Bel w0.heap.size w0 w'))   .ret f (Has w0 F L) :=
  fun w hw => ⟨f t, results_one hr ht w, hv, hw.1⟩

end Go.Proofs.Ytmkboljfbmlebaa
/- The laws of single operations, each in every world of a class. No condition. -/
namespace Go.Proofs.Ytmkboljfbmlebaa
open Go.RowKit
set_option linter.unusedSimpArgs false
set_option linter.unusedVariables false

/-! closed facts on types -/
def scalarB (P : Program) (T : TypeId) : Bool := match P.underlying T with
  | some (.struct _) => false
  | some (.array _ _) => false
  | some _ => true
  | none => false
def sizeB (P : Program) (T n : Nat) : Bool := match P.info? T with
  | some i => Nat.beq i.size n
  | none => false
def aggB (P : Program) (T n : Nat) : Bool := (match P.underlying T with
  | some (.struct _) => true
  | some (.array _ _) => true
  | _ => false) && sizeB P T n
def fieldB (P : Program) (T k fo : Nat) : Bool := match P.underlying T with
  | some (.struct fs) => (match fs[k]? with
    | some f => Nat.beq f.offset fo && (match P.info? f.type with | some i => !Nat.beq i.size 0 | none => false)
    | none => false)
  | _ => false
def arrB (P : Program) (T len size : Nat) : Bool := match P.underlying T with
  | some (.array l e) => Nat.beq l len && sizeB P e size
  | _ => false
def slB (P : Program) (T size : Nat) : Bool := match P.underlying T with
  | some (.slice e) => sizeB P e size
  | _ => false
def partB (P : Program) (T k t fo : Nat) : Bool := match P.underlying T with
  | some (.struct fs) => (match fs[k]? with
    | some f => Nat.beq f.offset fo && Nat.beq f.type t
    | none => false)
  | _ => false
def elemB (P : Program) (T len t size : Nat) : Bool := match P.underlying T with
  | some (.array l e) => Nat.beq l len && Nat.beq e t && sizeB P e size
  | _ => false

section
variable {P : Program} {w : World}
theorem sizeB_run {T n : Nat} (h : sizeB P T n = true) : (sizeOf T).run P w = .ok n w := by
  unfold sizeB at h
  split at h
  · rename_i i hi
    have := Nat.eq_of_beq_eq_true h
    simp [sizeOf, typeInfo, hi, this]
  · cases h
theorem sizeB_info {T n : Nat} (h : sizeB P T n = true) : (P.info? T).map (·.size) = some n := by
  unfold sizeB at h
  split at h
  · rename_i i hi
    have := Nat.eq_of_beq_eq_true h
    simp [hi, this]
  · cases h
theorem scalarB_run {T : Nat} (h : scalarB P T = true) : (isAgg T).run P w = .ok false w := by
  unfold scalarB at h
  cases hu : P.underlying T with
  | none => rw [hu] at h; cases h
  | some d =>
    rw [hu] at h
    cases d <;> first
      | (cases h; done)
      | simp [isAgg, underlying, hu]
theorem aggB_run {T n : Nat} (h : aggB P T n = true) : (isAgg T).run P w = .ok true w := by
  unfold aggB at h
  simp only [Bool.and_eq_true] at h
  cases hu : P.underlying T with
  | none => rw [hu] at h; cases h.1
  | some d =>
    rw [hu] at h
    cases d <;> first
      | (cases h.1; done)
      | simp [isAgg, underlying, hu]
theorem aggB_size {T n : Nat} (h : aggB P T n = true) : sizeB P T n = true := by
  unfold aggB at h
  simp only [Bool.and_eq_true] at h
  exact h.2
end

/-- One value in every world of the class, and the world as it was. -/
structure Val (P : Program) (f : Nat → Value) (C : World → Prop) (o : Oper) (v : Value) : Prop where
  out : ∀ w, C w → (execOp (ev f) o).run P w = .ok (.value v) w

section
variable {P : Program} {ops : Array Oper} {K : (Nat → Value) → World → Prop} {KQ : (Nat → Value) → Prop} {rest : List Oper} {f : Nat → Value} {C : World → Prop}
  {d : Nat} {op : Op} {ty : TypeId} {pos : String} {af : Array Edge}

theorem wanted_free {dst : Option Nat} {g : Nat → Option Bool} : Region.wanted ⟨dst, op, ty, pos, af, none⟩ g = true := rfl
theorem s_val {v : Value} (h : Val P f C ⟨some d, op, ty, pos, af, none⟩ v) (k : sC P ops K rest (upd f d v) C) : sC P ops K (⟨some d, op, ty, pos, af, none⟩ :: rest) f C := by
  intro w hw
  unfold sw
  rw [if_pos wanted_free]
  unfold opk
  rw [h.out w hw]
  exact k w hw
theorem q_val {v : Value} (h : Val P f C ⟨some d, op, ty, pos, af, none⟩ v) (k : qw P ops C KQ rest (upd f d v)) : qw P ops C KQ (⟨some d, op, ty, pos, af, none⟩ :: rest) f := by
  unfold qw
  rw [if_pos wanted_free]
  exact ⟨v, fun w hw => by rw [h.out w hw]; exact ⟨rfl, rfl⟩, k⟩

/-! guards -/
theorem wanted_of {j s : Nat} {b g : Bool} {dst : Option Nat} (hj : (ops[j]?).bind (·.dst) = some s) (hs : f s = .bool g) : Region.wanted ⟨dst, op, ty, pos, af, some (j, b)⟩ (yf ops f) = (g == b) := by
  unfold Region.wanted yf
  simp only [hj, hs]
  cases g <;> cases b <;> rfl
theorem wanted_no {j s : Nat} {b : Bool} {dst : Option Nat} (hj : (ops[j]?).bind (·.dst) = some s) (hs : f s = undef) : Region.wanted ⟨dst, op, ty, pos, af, some (j, b)⟩ (yf ops f) = false := by
  unfold Region.wanted yf
  simp only [hj, hs]
  rfl
theorem s_want {j s : Nat} {b g : Bool} {dst : Option Nat} (hj : (ops[j]?).bind (·.dst) = some s) (hs : f s = .bool g) (hg : g = b) (k : sC P ops K (⟨dst, op, ty, pos, af, none⟩ :: rest) f C) :
    sC P ops K (⟨dst, op, ty, pos, af, some (j, b)⟩ :: rest) f C := by
  intro w hw
  have := k w hw
  unfold sw at this ⊢
  rw [if_pos wanted_free] at this
  rw [wanted_of hj hs, if_pos (by simp [hg])]
  exact this
theorem s_pass {j s : Nat} {b g : Bool} {dst : Option Nat} (hj : (ops[j]?).bind (·.dst) = some s) (hs : f s = .bool g) (hg : g = !b) (k : sC P ops K rest (updo f dst undef) C) :
    sC P ops K (⟨dst, op, ty, pos, af, some (j, b)⟩ :: rest) f C := by
  intro w hw
  unfold sw
  rw [wanted_of hj hs, if_neg (by simp [hg])]
  exact k w hw
theorem s_passU {j s : Nat} {b : Bool} {dst : Option Nat} (hj : (ops[j]?).bind (·.dst) = some s) (hs : f s = undef) (k : sC P ops K rest (updo f dst undef) C) :
    sC P ops K (⟨dst, op, ty, pos, af, some (j, b)⟩ :: rest) f C := by
  intro w hw
  unfold sw
  rw [wanted_no hj hs, if_neg (by simp)]
  exact k w hw
theorem q_want {j s : Nat} {b g : Bool} {dst : Option Nat} (hj : (ops[j]?).bind (·.dst) = some s) (hs : f s = .bool g) (hg : g = b) (k : qw P ops C KQ (⟨dst, op, ty, pos, af, none⟩ :: rest) f) :
    qw P ops C KQ (⟨dst, op, ty, pos, af, some (j, b)⟩ :: rest) f := by
  unfold qw at k ⊢
  rw [if_pos wanted_free] at k
  rw [wanted_of hj hs, if_pos (by simp [hg])]
  exact k
theorem q_pass {j s : Nat} {b g : Bool} {dst : Option Nat} (hj : (ops[j]?).bind (·.dst) = some s) (hs : f s = .bool g) (hg : g = !b) (k : qw P ops C KQ rest (updo f dst undef)) :
    qw P ops C KQ (⟨dst, op, ty, pos, af, some (j, b)⟩ :: rest) f := by
  unfold qw
  rw [wanted_of hj hs, if_neg (by simp [hg])]
  exact k
theorem q_passU {j s : Nat} {b : Bool} {dst : Option Nat} (hj : (ops[j]?).bind (·.dst) = some s) (hs : f s = undef) (k : qw P ops C KQ rest (updo f dst undef)) :
    qw P ops C KQ (⟨dst, op, ty, pos, af, some (j, b)⟩ :: rest) f := by
  unfold qw
  rw [wanted_no hj hs, if_neg (by simp)]
  exact k
/-- both ways -/
theorem s_split {s : Nat} {g : Bool} {l : List Oper} (hs : f s = .bool g) (ht : g = true → sC P ops K l f C) (hf : g = false → sC P ops K l f C) : sC P ops K l f C := by cases g; exact hf rfl; exact ht rfl
theorem q_split {s : Nat} {g : Bool} {l : List Oper} (hs : f s = .bool g) (ht : g = true → qw P ops C KQ l f) (hf : g = false → qw P ops C KQ l f) : qw P ops C KQ l f := by cases g; exact hf rfl; exact ht rfl
theorem s_splitN {s : Nat} {g : Bool} {l : List Oper} (hs : f s = .bool (!g)) (ht : g = false → sC P ops K l f C) (hf : g = true → sC P ops K l f C) : sC P ops K l f C := by cases g; exact ht rfl; exact hf rfl
theorem q_splitN {s : Nat} {g : Bool} {l : List Oper} (hs : f s = .bool (!g)) (ht : g = false → qw P ops C KQ l f) (hf : g = true → qw P ops C KQ l f) : qw P ops C KQ l f := by cases g; exact ht rfl; exact hf rfl
theorem c_condN {n : Nat} {Q : Exit → (Nat → Value) → World → Prop} {c : Operand} {x y : Code} {g : Bool} (hB : opndB n c = true) (hc : ev f c = .bool (!g)) (ht : g = false → cC P n x Q f C) (hf : g = true → cC P n y Q f C) : cC P n (.cond c x y) Q f C := by
  cases g
  · exact c_condT hB hc (ht rfl)
  · exact c_condF hB hc (hf rfl)
theorem s_splitR {s : Nat} {g : Bool} {l : List Oper} (hs : f s = .bool g) (hf : g = false → sC P ops K l f C) (ht : g = true → sC P ops K l f C) : sC P ops K l f C := s_split hs ht hf
theorem q_splitR {s : Nat} {g : Bool} {l : List Oper} (hs : f s = .bool g) (hf : g = false → qw P ops C KQ l f) (ht : g = true → qw P ops C KQ l f) : qw P ops C KQ l f := q_split hs ht hf
theorem s_splitNR {s : Nat} {g : Bool} {l : List Oper} (hs : f s = .bool (!g)) (hf : g = true → sC P ops K l f C) (ht : g = false → sC P ops K l f C) : sC P ops K l f C := s_splitN hs ht hf
theorem q_splitNR {s : Nat} {g : Bool} {l : List Oper} (hs : f s = .bool (!g)) (hf : g = true → qw P ops C KQ l f) (ht : g = false → qw P ops C KQ l f) : qw P ops C KQ l f := q_splitN hs ht hf
theorem c_condR {n : Nat} {Q : Exit → (Nat → Value) → World → Prop} {c : Operand} {x y : Code} {g : Bool} (hB : opndB n c = true) (hc : ev f c = .bool g) (hf : g = false → cC P n y Q f C) (ht : g = true → cC P n x Q f C) : cC P n (.cond c x y) Q f C := c_cond hB hc ht hf
theorem c_condNR {n : Nat} {Q : Exit → (Nat → Value) → World → Prop} {c : Operand} {x y : Code} {g : Bool} (hB : opndB n c = true) (hc : ev f c = .bool (!g)) (hf : g = true → cC P n y Q f C) (ht : g = false → cC P n x Q f C) : cC P n (.cond c x y) Q f C := c_condN hB hc ht hf
theorem c_condTh {n : Nat} {Q : Exit → (Nat → Value) → World → Prop} {c : Operand} {x y : Code} {b : Bool} (hB : opndB n c = true) (hc : ev f c = .bool b) (hb : b = true) (h : cC P n x Q f C) : cC P n (.cond c x y) Q f C := c_condT hB (hc.trans (by rw [hb])) h
theorem c_condFh {n : Nat} {Q : Exit → (Nat → Value) → World → Prop} {c : Operand} {x y : Code} {b : Bool} (hB : opndB n c = true) (hc : ev f c = .bool b) (hb : b = false) (h : cC P n y Q f C) : cC P n (.cond c x y) Q f C := c_condF hB (hc.trans (by rw [hb])) h

theorem by_bool {X : Prop} (g : Bool) (ht : g = true → X) (hf : g = false → X) : X := by cases g; exact hf rfl; exact ht rfl
end

section
variable {P : Program} {f : Nat → Value} {C : World → Prop} {dst : Option Nat} {ty : TypeId} {pos : String} {af : Array Edge} {gd : Option (Nat × Bool)} {w0 : World} {F : Addr → Value → Prop} {L : List (Nat × Obj)}

theorem v_move {x : Operand} {v : Value} (hx : ev f x = v) : Val P f C ⟨dst, .move x, ty, pos, af, gd⟩ v := ⟨fun w _ => by simp [execOp, hx]⟩
theorem v_assign {x : Operand} {v : Value} (hx : ev f x = v) : Val P f C ⟨dst, .assign x, ty, pos, af, gd⟩ v := ⟨fun w _ => by simp [execOp, hx]⟩
theorem v_pickT {c a b : Operand} {g : Bool} {v : Value} (hc : ev f c = .bool g) (hg : g = true) (ha : ev f a = v) : Val P f C ⟨dst, .pick c a b, ty, pos, af, gd⟩ v :=
  ⟨fun w _ => by simp [execOp, hc, asBool, hg, ha]⟩
theorem v_pickF {c a b : Operand} {g : Bool} {v : Value} (hc : ev f c = .bool g) (hg : g = false) (hb : ev f b = v) : Val P f C ⟨dst, .pick c a b, ty, pos, af, gd⟩ v :=
  ⟨fun w _ => by simp [execOp, hc, asBool, hg, hb]⟩
theorem v_not {x : Operand} {t : TypeId} {b : Bool} (hx : ev f x = .bool b) : Val P f C ⟨dst, .unOp .not t x, ty, pos, af, gd⟩ (.bool (!b)) :=
  ⟨fun w _ => by simp [execOp, hx, Op.unary]⟩

theorem eqGuard_int {op : BinOp} {t : TypeId} {x y : Operand} {k k' : IntKind} {a b : Int} {w : World} : (eqGuard op t x y (.int k a) (.int k' b)).run P w = .ok () w := by
  unfold eqGuard
  cases op <;> simp
theorem v_lss {x y : Operand} {t t' : TypeId} {k : IntKind} {a b : Int} (hx : ev f x = .int k a) (hy : ev f y = .int k b) : Val P f C ⟨dst, .binOp .lss t x y t', ty, pos, af, gd⟩ (.bool (decide (a < b))) :=
  ⟨fun w _ => by simp [execOp, hx, hy, eqGuard_int, binOp, Op.intCmp]⟩
theorem v_leq {x y : Operand} {t t' : TypeId} {k : IntKind} {a b : Int} (hx : ev f x = .int k a) (hy : ev f y = .int k b) : Val P f C ⟨dst, .binOp .leq t x y t', ty, pos, af, gd⟩ (.bool (decide (a ≤ b))) :=
  ⟨fun w _ => by simp [execOp, hx, hy, eqGuard_int, binOp, Op.intCmp]⟩
theorem v_gtr {x y : Operand} {t t' : TypeId} {k : IntKind} {a b : Int} (hx : ev f x = .int k a) (hy : ev f y = .int k b) : Val P f C ⟨dst, .binOp .gtr t x y t', ty, pos, af, gd⟩ (.bool (decide (b < a))) :=
  ⟨fun w _ => by simp [execOp, hx, hy, eqGuard_int, binOp, Op.intCmp]⟩
theorem v_geq {x y : Operand} {t t' : TypeId} {k : IntKind} {a b : Int} (hx : ev f x = .int k a) (hy : ev f y = .int k b) : Val P f C ⟨dst, .binOp .geq t x y t', ty, pos, af, gd⟩ (.bool (decide (b ≤ a))) :=
  ⟨fun w _ => by simp [execOp, hx, hy, eqGuard_int, binOp, Op.intCmp]⟩
theorem v_eql {x y : Operand} {t t' : TypeId} {k : IntKind} {a b : Int} (hx : ev f x = .int k a) (hy : ev f y = .int k b) : Val P f C ⟨dst, .binOp .eql t x y t', ty, pos, af, gd⟩ (.bool (decide (a = b))) :=
  ⟨fun w _ => by simp [execOp, hx, hy, eqGuard_int, binOp, Op.intCmp]; rw [Bool.eq_iff_iff]; simp⟩
theorem v_neq {x y : Operand} {t t' : TypeId} {k : IntKind} {a b : Int} (hx : ev f x = .int k a) (hy : ev f y = .int k b) : Val P f C ⟨dst, .binOp .neq t x y t', ty, pos, af, gd⟩ (.bool (!decide (a = b))) :=
  ⟨fun w _ => by simp [execOp, hx, hy, eqGuard_int, binOp, Op.intCmp]; rw [Bool.eq_iff_iff]; simp⟩

theorem eqGuard_bool {op : BinOp} {t : TypeId} {x y : Operand} {a b : Bool} {w : World} : (eqGuard op t x y (.bool a) (.bool b)).run P w = .ok () w := by
  unfold eqGuard
  cases op <;> simp
def boolB (P : Program) (T : TypeId) : Bool := match P.underlying T with
  | some .bool => true
  | _ => false
theorem boolB_spec {T : TypeId} (h : boolB P T = true) : P.underlying T = some .bool := by
  unfold boolB at h
  split at h
  · assumption
  · cases h
theorem v_eqlB {x y : Operand} {t t' : TypeId} {a b : Bool} (hT : boolB P t = true) (hx : ev f x = .bool a) (hy : ev f y = .bool b) : Val P f C ⟨dst, .binOp .eql t x y t', ty, pos, af, gd⟩ (.bool (a == b)) :=
  ⟨fun w _ => by simp [execOp, hx, hy, eqGuard_bool, binOp, run_equal_bool w t a b (boolB_spec hT)]⟩
theorem v_neqB {x y : Operand} {t t' : TypeId} {a b : Bool} (hT : boolB P t = true) (hx : ev f x = .bool a) (hy : ev f y = .bool b) : Val P f C ⟨dst, .binOp .neq t x y t', ty, pos, af, gd⟩ (.bool (!(a == b))) :=
  ⟨fun w _ => by simp [execOp, hx, hy, eqGuard_bool, binOp, run_equal_bool w t a b (boolB_spec hT)]⟩
/-- the first i of a slice -/
theorem v_sliceHi {x y : Operand} {T m : Nat} {a : Option Addr} {len cap : Nat} {k : IntKind} {i : Int} (hT : slB P T m = true) (hx : ev f x = .slice a len cap) (hy : ev f y = .int k i) (hi : 0 ≤ i ∧ i ≤ cap) :
    Val P f C ⟨dst, .slice T x none (some y) none, ty, pos, af, gd⟩ (.slice a i.toNat cap) :=
  ⟨fun w _ => by
    unfold slB at hT
    split at hT
    · rename_i e hu
      have hz := sizeB_run (w := w) hT
      have ha : Option.map (fun x : Addr => x.add 0) a = a := by cases a <;> simp [Addr.add]
      simp [execOp, hx, hy, Instr.sliceAt, underlying, hu, Instr.slice, Instr.sliceBounds, Instr.sliceBound, asIntOf, hi, hz, ha]
    · cases hT⟩
def wr (n : Int) : Int := IntKind.i64.wrap n
theorem wrap_in {a : Int} (h1 : -9223372036854775808 ≤ a) (h2 : a ≤ 9223372036854775807) : IntKind.i64.wrap a = a := IntWalk.i64_in _ ⟨by omega, by omega⟩
theorem v_addk {x y : Operand} {t t' : TypeId} {k : IntKind} {a b : Int} (hx : ev f x = .int k a) (hy : ev f y = .int k b) : Val P f C ⟨dst, .binOp .add t x y t', ty, pos, af, gd⟩ (.int k (k.wrap (a + b))) :=
  ⟨fun w _ => by simp [execOp, hx, hy, eqGuard_int, binOp, Op.intArith]⟩
theorem v_subk {x y : Operand} {t t' : TypeId} {k : IntKind} {a b : Int} (hx : ev f x = .int k a) (hy : ev f y = .int k b) : Val P f C ⟨dst, .binOp .sub t x y t', ty, pos, af, gd⟩ (.int k (k.wrap (a - b))) :=
  ⟨fun w _ => by simp [execOp, hx, hy, eqGuard_int, binOp, Op.intArith]⟩
theorem v_mulk {x y : Operand} {t t' : TypeId} {k : IntKind} {a b : Int} (hx : ev f x = .int k a) (hy : ev f y = .int k b) : Val P f C ⟨dst, .binOp .mul t x y t', ty, pos, af, gd⟩ (.int k (k.wrap (a * b))) :=
  ⟨fun w _ => by simp [execOp, hx, hy, eqGuard_int, binOp, Op.intArith]⟩
theorem v_addw {x y : Operand} {t t' : TypeId} {a b : Int} (hx : ev f x = .int .i64 a) (hy : ev f y = .int .i64 b) : Val P f C ⟨dst, .binOp .add t x y t', ty, pos, af, gd⟩ (.int .i64 (wr (a + b))) := v_addk hx hy
theorem v_add {x y : Operand} {t t' : TypeId} {a b : Int} (hx : ev f x = .int .i64 a) (hy : ev f y = .int .i64 b) (h : -9223372036854775808 ≤ a + b ∧ a + b ≤ 9223372036854775807) : Val P f C ⟨dst, .binOp .add t x y t', ty, pos, af, gd⟩ (.int .i64 (a + b)) := by
  have := v_addk (P := P) (C := C) (dst := dst) (ty := ty) (pos := pos) (af := af) (gd := gd) (t := t) (t' := t') hx hy
  rwa [wrap_in h.1 h.2] at this
theorem v_subw {x y : Operand} {t t' : TypeId} {a b : Int} (hx : ev f x = .int .i64 a) (hy : ev f y = .int .i64 b) : Val P f C ⟨dst, .binOp .sub t x y t', ty, pos, af, gd⟩ (.int .i64 (wr (a - b))) := v_subk hx hy
theorem v_sub {x y : Operand} {t t' : TypeId} {a b : Int} (hx : ev f x = .int .i64 a) (hy : ev f y = .int .i64 b) (h : -9223372036854775808 ≤ a - b ∧ a - b ≤ 9223372036854775807) : Val P f C ⟨dst, .binOp .sub t x y t', ty, pos, af, gd⟩ (.int .i64 (a - b)) := by
  have := v_subk (P := P) (C := C) (dst := dst) (ty := ty) (pos := pos) (af := af) (gd := gd) (t := t) (t' := t') hx hy
  rwa [wrap_in h.1 h.2] at this
theorem v_mulw {x y : Operand} {t t' : TypeId} {a b : Int} (hx : ev f x = .int .i64 a) (hy : ev f y = .int .i64 b) : Val P f C ⟨dst, .binOp .mul t x y t', ty, pos, af, gd⟩ (.int .i64 (wr (a * b))) := v_mulk hx hy
theorem v_mul {x y : Operand} {t t' : TypeId} {a b : Int} (hx : ev f x = .int .i64 a) (hy : ev f y = .int .i64 b) (h : -9223372036854775808 ≤ a * b ∧ a * b ≤ 9223372036854775807) : Val P f C ⟨dst, .binOp .mul t x y t', ty, pos, af, gd⟩ (.int .i64 (a * b)) := by
  have := v_mulk (P := P) (C := C) (dst := dst) (ty := ty) (pos := pos) (af := af) (gd := gd) (t := t) (t' := t') hx hy
  rwa [wrap_in h.1 h.2] at this
theorem v_addL {x y : Operand} {t t' : TypeId} {a b c : Int} (hx : ev f x = .int .i64 a) (hy : ev f y = .int .i64 b) (hc : a + b = c) (h : -9223372036854775808 ≤ c ∧ c ≤ 9223372036854775807) : Val P f C ⟨dst, .binOp .add t x y t', ty, pos, af, gd⟩ (.int .i64 c) := by
  subst hc; exact v_add hx hy h
theorem v_quo {x y : Operand} {t t' : TypeId} {a b c : Int} (hx : ev f x = .int .i64 a) (hy : ev f y = .int .i64 b) (hb : b ≠ 0) (hc : IntKind.i64.wrap (a.tdiv b) = c) : Val P f C ⟨dst, .binOp .quo t x y t', ty, pos, af, gd⟩ (.int .i64 c) :=
  ⟨fun w _ => by simp [execOp, hx, hy, eqGuard_int, binOp, Op.intDiv, hb, hc]⟩
theorem v_rem {x y : Operand} {t t' : TypeId} {a b c : Int} (hx : ev f x = .int .i64 a) (hy : ev f y = .int .i64 b) (hb : b ≠ 0) (hc : a.tmod b = c) : Val P f C ⟨dst, .binOp .rem t x y t', ty, pos, af, gd⟩ (.int .i64 c) :=
  ⟨fun w _ => by simp [execOp, hx, hy, eqGuard_int, binOp, Op.intDiv, hb, hc]⟩
theorem v_negk {x : Operand} {t : TypeId} {k : IntKind} {a : Int} (hx : ev f x = .int k a) : Val P f C ⟨dst, .unOp .neg t x, ty, pos, af, gd⟩ (.int k (k.wrap (0 - a))) :=
  ⟨fun w _ => by simp [execOp, hx, Op.unary, Op.intArith]⟩
theorem v_negw {x : Operand} {t : TypeId} {a : Int} (hx : ev f x = .int .i64 a) : Val P f C ⟨dst, .unOp .neg t x, ty, pos, af, gd⟩ (.int .i64 (wr (0 - a))) := v_negk hx
theorem v_neg {x : Operand} {t : TypeId} {a : Int} (hx : ev f x = .int .i64 a) (h : -9223372036854775807 ≤ a ∧ a ≤ 9223372036854775807) : Val P f C ⟨dst, .unOp .neg t x, ty, pos, af, gd⟩ (.int .i64 (-a)) := by
  have := v_negk (P := P) (C := C) (dst := dst) (ty := ty) (pos := pos) (af := af) (gd := gd) (t := t) hx
  rwa [wrap_in (by omega) (by omega), Int.zero_sub] at this

/-! addresses -/
theorem add_off (b o k : Nat) : (⟨b, o, none⟩ : Addr).add k = ⟨b, o + k, none⟩ := by unfold Addr.add; split <;> simp_all
theorem v_field {x : Operand} {T k fo b o : Nat} (hF : fieldB P T k fo = true) (hx : ev f x = .pointer (some ⟨b, o, none⟩)) : Val P f C ⟨dst, .fieldAddr T x k, ty, pos, af, gd⟩ (.pointer (some ⟨b, o + fo, none⟩)) :=
  ⟨fun w _ => by
    unfold fieldB at hF
    split at hF
    · rename_i fs hu
      split at hF
      · rename_i fd hfd
        simp only [Bool.and_eq_true] at hF
        obtain ⟨h1, h2⟩ := hF
        have h1 := Nat.eq_of_beq_eq_true h1
        split at h2
        · rename_i i hi
          have hz : ¬ i.size = 0 := by intro e; rw [e] at h2; cases h2
          simp [execOp, hx, Instr.fieldAt, underlying, hu, hfd, Instr.sureAddr, fieldPlace, sizeOf, typeInfo, hi, hz, add_off, h1]
        · cases h2
      · cases hF
    · cases hF⟩
theorem v_idxA {x y : Operand} {T len size b o : Nat} {k : IntKind} {i : Int} (hT : arrB P T len size = true) (hx : ev f x = .pointer (some ⟨b, o, none⟩)) (hy : ev f y = .int k i) (hi : 0 ≤ i ∧ i < len) :
    Val P f C ⟨dst, .indexAddr T x y, ty, pos, af, gd⟩ (.pointer (some ⟨b, o + i.toNat * size, none⟩)) :=
  ⟨fun w _ => by
    unfold arrB at hT
    split at hT
    · rename_i l e hu
      simp only [Bool.and_eq_true] at hT
      obtain ⟨h1, h2⟩ := hT
      have h1 := Nat.eq_of_beq_eq_true h1
      subst h1
      have hz := sizeB_run (w := w) h2
      simp [execOp, hx, hy, Instr.indexAt, asIntOf, underlying, hu, Instr.sureAddr, hi, hz, add_off]
    · cases hT⟩
theorem v_idxS {x y : Operand} {T size b o len cap : Nat} {k : IntKind} {i : Int} (hT : slB P T size = true) (hx : ev f x = .slice (some ⟨b, o, none⟩) len cap) (hy : ev f y = .int k i) (hi : 0 ≤ i ∧ i < len) :
    Val P f C ⟨dst, .indexAddr T x y, ty, pos, af, gd⟩ (.pointer (some ⟨b, o + i.toNat * size, none⟩)) :=
  ⟨fun w _ => by
    unfold slB at hT
    split at hT
    · rename_i e hu
      have hz := sizeB_run (w := w) hT
      simp [execOp, hx, hy, Instr.indexAt, asIntOf, underlying, hu, hi, hz, add_off]
    · cases hT⟩

/-! values out of values -/
theorem v_fieldS {x : Operand} {T k t fo : Nat} {cs : Array Value} {v : Value} (hF : partB P T k t fo = true) (ht : scalarB P t = true) (hx : ev f x = .agg cs) (hv : cs[fo]? = some v) : Val P f C ⟨dst, .field T x k, ty, pos, af, gd⟩ v :=
  ⟨fun w _ => by
    unfold partB at hF
    split at hF
    · rename_i fs hu
      split at hF
      · rename_i fd hfd
        simp only [Bool.and_eq_true] at hF
        obtain ⟨h1, h2⟩ := hF
        have h1 := Nat.eq_of_beq_eq_true h1
        have h2 := Nat.eq_of_beq_eq_true h2
        subst h1 h2
        have := scalarB_run (w := w) ht
        simp [execOp, hx, Instr.field, underlying, hu, hfd, asAgg, part, this, hv]
      · cases hF
    · cases hF⟩
theorem v_fieldV {x : Operand} {T k t fo m : Nat} {cs : Array Value} (hF : partB P T k t fo = true) (ht : aggB P t m = true) (hx : ev f x = .agg cs) : Val P f C ⟨dst, .field T x k, ty, pos, af, gd⟩ (.agg (cs.extract fo (fo + m))) :=
  ⟨fun w _ => by
    unfold partB at hF
    split at hF
    · rename_i fs hu
      split at hF
      · rename_i fd hfd
        simp only [Bool.and_eq_true] at hF
        obtain ⟨h1, h2⟩ := hF
        have h1 := Nat.eq_of_beq_eq_true h1
        have h2 := Nat.eq_of_beq_eq_true h2
        subst h1 h2
        have := aggB_run (w := w) ht
        have h3 := sizeB_run (w := w) (aggB_size ht)
        simp [execOp, hx, Instr.field, underlying, hu, hfd, asAgg, part, this, h3]
      · cases hF
    · cases hF⟩
theorem v_indexV {x y : Operand} {T len t m : Nat} {cs cs' : Array Value} {k : IntKind} {i : Int} (hT : elemB P T len t m = true) (ht : aggB P t m = true) (hx : ev f x = .agg cs) (hy : ev f y = .int k i) (hi : 0 ≤ i ∧ i < len) (hv : cs.extract (i.toNat * m) (i.toNat * m + m) = cs') :
    Val P f C ⟨dst, .index T x y, ty, pos, af, gd⟩ (.agg cs') :=
  ⟨fun w _ => by
    unfold elemB at hT
    split at hT
    · rename_i l e hu
      simp only [Bool.and_eq_true] at hT
      obtain ⟨⟨h1, h2⟩, h3⟩ := hT
      have h1 := Nat.eq_of_beq_eq_true h1
      have h2 := Nat.eq_of_beq_eq_true h2
      subst h1 h2
      have h4 := aggB_run (w := w) ht
      have h5 := sizeB_run (w := w) h3
      simp [execOp, hx, hy, Instr.index, asIntOf, underlying, hu, hi, part, h4, h5, hv]
    · cases hT⟩
theorem v_indexS {x y : Operand} {T len t m : Nat} {cs : Array Value} {k : IntKind} {i : Int} {v : Value} (hT : elemB P T len t m = true) (ht : scalarB P t = true) (hx : ev f x = .agg cs) (hy : ev f y = .int k i) (hi : 0 ≤ i ∧ i < len) (hv : cs[i.toNat * m]? = some v) :
    Val P f C ⟨dst, .index T x y, ty, pos, af, gd⟩ v :=
  ⟨fun w _ => by
    unfold elemB at hT
    split at hT
    · rename_i l e hu
      simp only [Bool.and_eq_true] at hT
      obtain ⟨⟨h1, h2⟩, h3⟩ := hT
      have h1 := Nat.eq_of_beq_eq_true h1
      have h2 := Nat.eq_of_beq_eq_true h2
      subst h1 h2
      have h4 := scalarB_run (w := w) ht
      have h5 := sizeB_run (w := w) h3
      simp [execOp, hx, hy, Instr.index, asIntOf, underlying, hu, hi, part, h4, h5, hv]
    · cases hT⟩

theorem v_lenS {x : Operand} {T m : Nat} {ats : Array TypeId} {a : Option Addr} {len cap : Nat} (hT : slB P T m = true) (ha : ats = #[T]) (hx : ev f x = .slice a len cap) :
    Val P f C ⟨dst, .call ⟨.builtin .len, #[x], ats⟩, ty, pos, af, gd⟩ (.int .i64 len) :=
  ⟨fun w _ => by
    unfold slB at hT
    split at hT
    · rename_i e hu
      simp [execOp, resolve, invoke, builtin, hx, ha, Builtin.len_, underlying, hu, goInt]
    · cases hT⟩

/-! loads -/
theorem cell_has {w0 w : World} {F : Addr → Value → Prop} {L : List (Nat × Obj)} {b o : Nat} {cs : Array Value} {t : TypeId} {fr : Nat × Nat} (h : Has w0 F L w) (hl : Look L b (.cells cs t fr)) : w.cell? ⟨b, o, none⟩ = cs[o]? :=
  cell_of_row w b o cs t fr (h.look hl)
theorem cell_old {w0 w : World} {F : Addr → Value → Prop} {L : List (Nat × Obj)} {b o : Nat} {v : Value} (h : Has w0 F L w) (hv : F ⟨b, o, none⟩ v) : w.cell? ⟨b, o, none⟩ = some v := (h.2.2.2 _ _ hv).1
theorem run_load1 {w : World} {T : TypeId} {b o : Nat} {v : Value} (hT : scalarB P T = true) (hc : w.cell? ⟨b, o, none⟩ = some v) : (Instr.loadAt T (.pointer (some ⟨b, o, none⟩))).run P w = .ok v w := by
  have := scalarB_run (w := w) hT
  simp only [Instr.loadAt, Instr.sureAddr, loadVar, Sem.run_bind, Sem.run_pure, Result.andThen, this, load, Bool.false_eq_true, if_false, Sem.run, hc]
theorem run_loadN {w : World} {T b o : Nat} {cs : List Value} (hT : aggB P T cs.length = true) (hc : ∀ j v, cs[j]? = some v → w.cell? ⟨b, o + j, none⟩ = some v) : (Instr.loadAt T (.pointer (some ⟨b, o, none⟩))).run P w = .ok (.agg cs.toArray) w := by
  have h1 := aggB_run (w := w) hT
  have h2 := sizeB_run (w := w) (aggB_size hT)
  have h3 := run_loadCells_list (P := P) w ⟨b, o, none⟩ cs (fun j v hv => by rw [add_off]; exact hc j v hv)
  simp [Instr.loadAt, Instr.sureAddr, loadVar, h1, h2, h3]
theorem v_load1 {x : Operand} {T b o t : Nat} {fr : Nat × Nat} {cs : Array Value} {v : Value} (hT : scalarB P T = true) (hx : ev f x = .pointer (some ⟨b, o, none⟩)) (hl : Look L b (.cells cs t fr)) (hv : cs[o]? = some v) :
    Val P f (Has w0 F L) ⟨dst, .load T x, ty, pos, af, gd⟩ v :=
  ⟨fun w hw => by simp [execOp, hx, run_load1 hT ((cell_has hw hl).trans hv)]⟩
theorem v_load1o {x : Operand} {T b o : Nat} {v : Value} (hT : scalarB P T = true) (hx : ev f x = .pointer (some ⟨b, o, none⟩)) (hv : F ⟨b, o, none⟩ v) :
    Val P f (Has w0 F L) ⟨dst, .load T x, ty, pos, af, gd⟩ v :=
  ⟨fun w hw => by simp [execOp, hx, run_load1 hT (cell_old hw hv)]⟩
theorem v_loadN {x : Operand} {T b o t m : Nat} {fr : Nat × Nat} {cs cs' : Array Value} (hT : aggB P T m = true) (hx : ev f x = .pointer (some ⟨b, o, none⟩)) (hl : Look L b (.cells cs t fr)) (hm : cs'.size = m) (hv : cs.extract o (o + m) = cs') :
    Val P f (Has w0 F L) ⟨dst, .load T x, ty, pos, af, gd⟩ (.agg cs') :=
  ⟨fun w hw => by
    subst hm
    have := run_loadN (P := P) (w := w) (b := b) (o := o) (cs := cs'.toList) (by simpa using hT) (fun j v hj => by
      rw [cell_has hw hl]
      have hj' : cs'[j]? = some v := by simpa using hj
      rw [← hv, Array.getElem?_extract] at hj'
      split at hj'
      · exact hj'
      · cases hj')
    simp at this
    simp [execOp, hx, this]⟩
theorem v_loadA {x : Operand} {T b t m : Nat} {fr : Nat × Nat} {cs : Array Value} (hT : aggB P T m = true) (hx : ev f x = .pointer (some ⟨b, 0, none⟩)) (hl : Look L b (.cells cs t fr)) (hm : cs.size = m) :
    Val P f (Has w0 F L) ⟨dst, .load T x, ty, pos, af, gd⟩ (.agg cs) :=
  v_loadN hT hx hl hm (by subst hm; simp)
theorem v_loadNo {x : Operand} {T b o m : Nat} {cs : Array Value} (hT : aggB P T m = true) (hx : ev f x = .pointer (some ⟨b, o, none⟩)) (hm : cs.size = m) (hv : ∀ j v, cs[j]? = some v → F ⟨b, o + j, none⟩ v) :
    Val P f (Has w0 F L) ⟨dst, .load T x, ty, pos, af, gd⟩ (.agg cs) :=
  ⟨fun w hw => by
    subst hm
    have := run_loadN (P := P) (w := w) (b := b) (o := o) (cs := cs.toList) (by simpa using hT) (fun j v hj => cell_old hw (hv j v (by simpa using hj)))
    simp at this
    simp [execOp, hx, this]⟩
end

/-! calls -/
section
variable {P : Program} {ops : Array Oper} {K : (Nat → Value) → World → Prop} {KQ : (Nat → Value) → Prop} {rest : List Oper} {f : Nat → Value} {C : World → Prop}
  {d : Nat} {ty : TypeId} {pos : String} {af : Array Edge} {w0 : World} {F : Addr → Value → Prop} {L : List (Nat × Obj)}

def hasBody (P : Program) (k : FuncId) : Bool := match P.funcs[k]? with
  | some fn => fn.body.isSome && !(fn.name == "runtime.NumGoroutine")
  | none => false
theorem run_call {k : FuncId} {xs : List Operand} {ats : Array TypeId} {dst : Option Nat} {gd : Option (Nat × Bool)} (hk : hasBody P k = true) (w : World) :
    (execOp (ev f) ⟨dst, .call ⟨.value (.func k), xs.toArray, ats⟩, ty, pos, af, gd⟩).run P w = .ok (.enter k (xs.map (ev f)).toArray) w := by
  unfold hasBody at hk
  split at hk
  · rename_i fn hf
    simp only [Bool.and_eq_true, Bool.not_eq_true'] at hk
    obtain ⟨h1, h2⟩ := hk
    have h3 : ¬ fn.body = none := by intro e; rw [e] at h1; cases h1
    have h4 : ¬ fn.name = "runtime.NumGoroutine" := by intro e; rw [e] at h2; simp at h2
    simp [execOp, resolve, ev, Deferred.ofValue, invoke, callFunc, hf, h3, h4]
  · cases hk
theorem s_call {k : FuncId} {xs : List Operand} {ats : Array TypeId} {v : Value} (hk : hasBody P k = true) (hg : ∀ w, Has w0 F L w → Gives P k (xs.map (ev f)) w v) (kk : sC P ops K rest (upd f d v) (Has w0 F L)) :
    sC P ops K (⟨some d, .call ⟨.value (.func k), xs.toArray, ats⟩, ty, pos, af, none⟩ :: rest) f (Has w0 F L) := by
  intro w hw
  unfold sw
  rw [if_pos wanted_free]
  unfold opk
  rw [run_call hk w]
  refine (hg w hw).out.mono fun e w' ⟨he, hb⟩ => ⟨v, he, kk w' (hw.below hb)⟩
theorem q_call {k : FuncId} {xs : List Operand} {ats : Array TypeId} {v : Value} (hk : hasBody P k = true) (hg : ∀ w, Has w0 F L w → Gives P k (xs.map (ev f)) w v) (kk : qw P ops (Has w0 F L) KQ rest (upd f d v)) :
    qw P ops (Has w0 F L) KQ (⟨some d, .call ⟨.value (.func k), xs.toArray, ats⟩, ty, pos, af, none⟩ :: rest) f := by
  unfold qw
  rw [if_pos wanted_free]
  refine ⟨v, fun w hw => ?_, kk⟩
  rw [run_call hk w]
  exact ⟨rfl, (hg w hw).out.mono fun e w' ⟨he, hb⟩ => ⟨he, hw.below hb⟩⟩

/-! memory that the call itself makes -/
theorem s_box {T : TypeId} {x : Operand} {v : Value} (hx : ev f x = v) (kk : ∀ b, sC P ops K rest (upd f d (.pointer (some ⟨b, 0, none⟩))) (Has w0 F ((b, .cells v.cells T) :: L))) :
    sC P ops K (⟨some d, .box T x, ty, pos, af, none⟩ :: rest) f (Has w0 F L) := by
  intro w hw
  unfold sw
  rw [if_pos wanted_free]
  unfold opk
  have : (execOp (ev f) ⟨some d, .box T x, ty, pos, af, none⟩).run P w = .ok (.value (.pointer (some ⟨w.heap.size, 0, none⟩))) (w.alloc (.cells v.cells T)) := by
    simp [execOp, hx, Instr.box, newVar, newRow, newObj, Sem.run]
  rw [this]
  exact kk _ _ (hw.alloc _)
def zeroOf (P : Program) (T : TypeId) : Value := ((P.info? T).bind (·.zero)).getD undef
/-- a row of cells in place of the one that lay there -/
theorem has_setRow {w : World} {b : Nat} {cs cs' : Array Value} {t : TypeId} {L' : List (Nat × Obj)} (hw : Has w0 F L w) (ht : Turn L b (.cells cs t (0, 0)) (.cells cs' t (0, 0)) L') : Has w0 F L' (w.setRow b cs') := by
  have hl := hw.look ht.look
  have hlt := (Array.getElem?_eq_some_iff.1 hl).1
  refine hw.turn ht rfl rfl rfl (by simp [World.setRow]) ?_ ?_
  · simp only [World.setRow, Array.getElem?_modify, if_true, hl]; rfl
  · intro k hk
    have hk' : ¬ b = k := fun e => hk e.symm
    simp only [World.setRow, Array.getElem?_modify, if_neg hk']
theorem setCell_row {w : World} {b o : Nat} {cs : Array Value} {t : TypeId} {v : Value} (hl : w.heap[b]? = some (.cells cs t (0, 0))) : w.setCell ⟨b, o, none⟩ v = w.setRow b (cs.setIfInBounds o v) := by
  have hlt := (Array.getElem?_eq_some_iff.1 hl).1
  have he := (Array.getElem?_eq_some_iff.1 hl).2
  simp only [World.setCell, World.setRow]
  congr 1
  apply Array.ext_getElem?
  intro i
  rw [Array.getElem?_modify, Array.getElem?_modify]
  by_cases hi : b = i
  · subst hi; simp [hl]
  · simp [hi]
theorem s_store1 {T : TypeId} {x y : Operand} {b o t : Nat} {cs cs' : Array Value} {v : Value} {L' : List (Nat × Obj)} (hT : sizeB P T 1 = true) (hx : ev f x = .pointer (some ⟨b, o, none⟩)) (hy : ev f y = v)
    (ht : Turn L b (.cells cs t (0, 0)) (.cells cs' t (0, 0)) L') (hs : o < cs.size ∧ cs.setIfInBounds o v = cs') (h1 : v.oneCell' = true) (kk : sC P ops K rest f (Has w0 F L')) :
    sC P ops K (⟨none, .store T x y, ty, pos, af, none⟩ :: rest) f (Has w0 F L) := by
  intro w hw
  unfold sw
  rw [if_pos wanted_free]
  unfold opk
  have hl := hw.look ht.look
  have hc : v.cells = #[v] := by cases v <;> first | rfl | (simp [Value.oneCell'] at h1)
  have hcell : w.cell? ⟨b, o, none⟩ = some (cs[o]'hs.1) := by rw [cell_of_row w b o cs t (0, 0) hl]; simp [hs.1]
  have hfr : w.frozen? ⟨b, o, none⟩ = false := by simp [World.frozen?, hl]
  have hst : (store (⟨b, o, none⟩ : Addr) v).run P w = .ok () (w.setCell ⟨b, o, none⟩ v) := by
    unfold store
    cases v <;> first
      | (simp [Value.oneCell'] at h1; done)
      | simp [Sem.run, hcell, hfr]
  have : (execOp (ev f) ⟨none, .store T x y, ty, pos, af, none⟩).run P w = .ok .skip (w.setCell ⟨b, o, none⟩ v) := by
    simp [execOp, hx, hy, Instr.storeAt, Instr.sureAddr, storeVar, hc, sizeB_run hT, storeCells, add_off, hst]
  rw [this]
  simp only [updo]
  rw [setCell_row hl, hs.2]
  exact kk _ (has_setRow hw ht)
theorem s_storeA {T : TypeId} {x y : Operand} {b t m : Nat} {cs cs' : Array Value} {L' : List (Nat × Obj)} (hT : sizeB P T m = true) (hx : ev f x = .pointer (some ⟨b, 0, none⟩)) (hy : ev f y = .agg cs')
    (ht : Turn L b (.cells cs t (0, 0)) (.cells cs' t (0, 0)) L') (hs : cs.size = m) (hs' : cs'.size = m) (h1 : cs'.all (·.oneCell') = true) (kk : sC P ops K rest f (Has w0 F L')) :
    sC P ops K (⟨none, .store T x y, ty, pos, af, none⟩ :: rest) f (Has w0 F L) := by
  intro w hw
  unfold sw
  rw [if_pos wanted_free]
  unfold opk
  have hl := hw.look ht.look
  have hst := run_storeVar_row (P := P) w b t T cs cs' hl (by rw [hs']; exact sizeB_info hT) (by rw [hs, hs']) h1
  have : (execOp (ev f) ⟨none, .store T x y, ty, pos, af, none⟩).run P w = .ok .skip (w.setRow b cs') := by
    simp [execOp, hx, hy, Instr.storeAt, Instr.sureAddr, hst]
  rw [this]
  exact kk _ (has_setRow hw ht)
theorem s_alloc {T : TypeId} {z : Value} (hz : (P.info? T).map (·.zero) = some (some z)) (kk : ∀ b, sC P ops K rest (upd f d (.pointer (some ⟨b, 0, none⟩))) (Has w0 F ((b, .cells z.cells T) :: L))) :
    sC P ops K (⟨some d, .alloc T, ty, pos, af, none⟩ :: rest) f (Has w0 F L) := by
  intro w hw
  unfold sw
  rw [if_pos wanted_free]
  unfold opk
  have hzr : ∀ w, (zeroValue T).run P w = .ok z w := by
    intro w
    cases hi : P.info? T with
    | none => simp [hi] at hz
    | some i => simp [hi] at hz; simp [zeroValue, typeInfo, hi, hz]
  have : (execOp (ev f) ⟨some d, .alloc T, ty, pos, af, none⟩).run P w = .ok (.value (.pointer (some ⟨w.heap.size, 0, none⟩))) (w.alloc (.cells z.cells T)) := by
    simp [execOp, Instr.alloc, hzr, newVar, newRow, newObj, Sem.run]
  rw [this]
  exact kk _ _ (hw.alloc _)
end

/-! frames of which some slots are known -/
theorem live0 {f : Nat → Value} : f = f := rfl
theorem live1 {f : Nat → Value} {s0 : Nat} {v0 : Value} (h0 : f s0 = v0) : f = upd f s0 v0 := by
  rw [upd_self h0]
theorem live2 {f : Nat → Value} {s0 s1 : Nat} {v0 v1 : Value} (h0 : f s0 = v0) (h1 : f s1 = v1) : f = upd (upd f s0 v0) s1 v1 := by
  rw [upd_self h0, upd_self h1]
theorem live3 {f : Nat → Value} {s0 s1 s2 : Nat} {v0 v1 v2 : Value} (h0 : f s0 = v0) (h1 : f s1 = v1) (h2 : f s2 = v2) : f = upd (upd (upd f s0 v0) s1 v1) s2 v2 := by
  rw [upd_self h0, upd_self h1, upd_self h2]
theorem live4 {f : Nat → Value} {s0 s1 s2 s3 : Nat} {v0 v1 v2 v3 : Value} (h0 : f s0 = v0) (h1 : f s1 = v1) (h2 : f s2 = v2) (h3 : f s3 = v3) : f = upd (upd (upd (upd f s0 v0) s1 v1) s2 v2) s3 v3 := by
  rw [upd_self h0, upd_self h1, upd_self h2, upd_self h3]
theorem live5 {f : Nat → Value} {s0 s1 s2 s3 s4 : Nat} {v0 v1 v2 v3 v4 : Value} (h0 : f s0 = v0) (h1 : f s1 = v1) (h2 : f s2 = v2) (h3 : f s3 = v3) (h4 : f s4 = v4) : f = upd (upd (upd (upd (upd f s0 v0) s1 v1) s2 v2) s3 v3) s4 v4 := by
  rw [upd_self h0, upd_self h1, upd_self h2, upd_self h3, upd_self h4]
theorem live6 {f : Nat → Value} {s0 s1 s2 s3 s4 s5 : Nat} {v0 v1 v2 v3 v4 v5 : Value} (h0 : f s0 = v0) (h1 : f s1 = v1) (h2 : f s2 = v2) (h3 : f s3 = v3) (h4 : f s4 = v4) (h5 : f s5 = v5) : f = upd (upd (upd (upd (upd (upd f s0 v0) s1 v1) s2 v2) s3 v3) s4 v4) s5 v5 := by
  rw [upd_self h0, upd_self h1, upd_self h2, upd_self h3, upd_self h4, upd_self h5]
theorem live7 {f : Nat → Value} {s0 s1 s2 s3 s4 s5 s6 : Nat} {v0 v1 v2 v3 v4 v5 v6 : Value} (h0 : f s0 = v0) (h1 : f s1 = v1) (h2 : f s2 = v2) (h3 : f s3 = v3) (h4 : f s4 = v4) (h5 : f s5 = v5) (h6 : f s6 = v6) : f = upd (upd (upd (upd (upd (upd (upd f s0 v0) s1 v1) s2 v2) s3 v3) s4 v4) s5 v5) s6 v6 := by
  rw [upd_self h0, upd_self h1, upd_self h2, upd_self h3, upd_self h4, upd_self h5, upd_self h6]
theorem live8 {f : Nat → Value} {s0 s1 s2 s3 s4 s5 s6 s7 : Nat} {v0 v1 v2 v3 v4 v5 v6 v7 : Value} (h0 : f s0 = v0) (h1 : f s1 = v1) (h2 : f s2 = v2) (h3 : f s3 = v3) (h4 : f s4 = v4) (h5 : f s5 = v5) (h6 : f s6 = v6) (h7 : f s7 = v7) : f = upd (upd (upd (upd (upd (upd (upd (upd f s0 v0) s1 v1) s2 v2) s3 v3) s4 v4) s5 v5) s6 v6) s7 v7 := by
  rw [upd_self h0, upd_self h1, upd_self h2, upd_self h3, upd_self h4, upd_self h5, upd_self h6, upd_self h7]
theorem live9 {f : Nat → Value} {s0 s1 s2 s3 s4 s5 s6 s7 s8 : Nat} {v0 v1 v2 v3 v4 v5 v6 v7 v8 : Value} (h0 : f s0 = v0) (h1 : f s1 = v1) (h2 : f s2 = v2) (h3 : f s3 = v3) (h4 : f s4 = v4) (h5 : f s5 = v5) (h6 : f s6 = v6) (h7 : f s7 = v7) (h8 : f s8 = v8) : f = upd (upd (upd (upd (upd (upd (upd (upd (upd f s0 v0) s1 v1) s2 v2) s3 v3) s4 v4) s5 v5) s6 v6) s7 v7) s8 v8 := by
  rw [upd_self h0, upd_self h1, upd_self h2, upd_self h3, upd_self h4, upd_self h5, upd_self h6, upd_self h7, upd_self h8]
theorem live10 {f : Nat → Value} {s0 s1 s2 s3 s4 s5 s6 s7 s8 s9 : Nat} {v0 v1 v2 v3 v4 v5 v6 v7 v8 v9 : Value} (h0 : f s0 = v0) (h1 : f s1 = v1) (h2 : f s2 = v2) (h3 : f s3 = v3) (h4 : f s4 = v4) (h5 : f s5 = v5) (h6 : f s6 = v6) (h7 : f s7 = v7) (h8 : f s8 = v8) (h9 : f s9 = v9) : f = upd (upd (upd (upd (upd (upd (upd (upd (upd (upd f s0 v0) s1 v1) s2 v2) s3 v3) s4 v4) s5 v5) s6 v6) s7 v7) s8 v8) s9 v9 := by
  rw [upd_self h0, upd_self h1, upd_self h2, upd_self h3, upd_self h4, upd_self h5, upd_self h6, upd_self h7, upd_self h8, upd_self h9]
theorem live11 {f : Nat → Value} {s0 s1 s2 s3 s4 s5 s6 s7 s8 s9 s10 : Nat} {v0 v1 v2 v3 v4 v5 v6 v7 v8 v9 v10 : Value} (h0 : f s0 = v0) (h1 : f s1 = v1) (h2 : f s2 = v2) (h3 : f s3 = v3) (h4 : f s4 = v4) (h5 : f s5 = v5) (h6 : f s6 = v6) (h7 : f s7 = v7) (h8 : f s8 = v8) (h9 : f s9 = v9) (h10 : f s10 = v10) : f = upd (upd (upd (upd (upd (upd (upd (upd (upd (upd (upd f s0 v0) s1 v1) s2 v2) s3 v3) s4 v4) s5 v5) s6 v6) s7 v7) s8 v8) s9 v9) s10 v10 := by
  rw [upd_self h0, upd_self h1, upd_self h2, upd_self h3, upd_self h4, upd_self h5, upd_self h6, upd_self h7, upd_self h8, upd_self h9, upd_self h10]
theorem live12 {f : Nat → Value} {s0 s1 s2 s3 s4 s5 s6 s7 s8 s9 s10 s11 : Nat} {v0 v1 v2 v3 v4 v5 v6 v7 v8 v9 v10 v11 : Value} (h0 : f s0 = v0) (h1 : f s1 = v1) (h2 : f s2 = v2) (h3 : f s3 = v3) (h4 : f s4 = v4) (h5 : f s5 = v5) (h6 : f s6 = v6) (h7 : f s7 = v7) (h8 : f s8 = v8) (h9 : f s9 = v9) (h10 : f s10 = v10) (h11 : f s11 = v11) : f = upd (upd (upd (upd (upd (upd (upd (upd (upd (upd (upd (upd f s0 v0) s1 v1) s2 v2) s3 v3) s4 v4) s5 v5) s6 v6) s7 v7) s8 v8) s9 v9) s10 v10) s11 v11 := by
  rw [upd_self h0, upd_self h1, upd_self h2, upd_self h3, upd_self h4, upd_self h5, upd_self h6, upd_self h7, upd_self h8, upd_self h9, upd_self h10, upd_self h11]
end Go.Proofs.Ytmkboljfbmlebaa
/- Houses, payments and rows of numbers as cells, and what each part of them reads as. No condition. -/
namespace Go.Proofs.Ytmkboljfbmlebaa
open Go.RowKit
set_option linter.unusedSimpArgs false
set_option linter.unusedVariables false

theorem getq {n : Nat} (g : Nat → Value) {j : Nat} (h : j < n) : (Array.ofFn (n := n) fun i => g i.val)[j]? = some (g j) := by simp [h]
theorem setq {n : Nat} (g g' : Nat → Value) {j : Nat} {v : Value} (hg : ∀ i, i < n → g' i = if i = j then v else g i) : (Array.ofFn (n := n) fun i => g i.val).setIfInBounds j v = Array.ofFn (n := n) fun i => g' i.val := by
  apply Array.ext
  · simp
  · intro i h1 h2
    simp at h1
    rw [Array.getElem_setIfInBounds (by simpa using h1)]
    simp only [Array.getElem_ofFn, hg i h1]
    by_cases e : j = i
    · subst e; simp
    · rw [if_neg e, if_neg (fun h : i = j => e h.symm)]
theorem extq {n m o : Nat} (g g' : Nat → Value) (h : o + m ≤ n) (hg : ∀ i, i < m → g (o + i) = g' i) : (Array.ofFn (n := n) fun i => g i.val).extract o (o + m) = Array.ofFn (n := m) fun i => g' i.val := by
  apply Array.ext
  · simp; omega
  · intro i h1 h2
    simp at h2
    simp [hg i h2]
theorem sameq {n : Nat} (g g' : Nat → Value) (hg : ∀ i, i < n → g i = g' i) : (Array.ofFn (n := n) fun i => g i.val) = Array.ofFn (n := n) fun i => g' i.val := by
  apply Array.ext
  · simp
  · intro i h1 h2
    simp at h1
    simp [hg i h1]

abbrev I (n : Int) : Value := .int .i64 n
def accC (has cred : Int → Int) (j : Nat) : Value := if j % 2 = 0 then I (has (j / 2 : Nat)) else I (cred (j / 2 : Nat))
def matC (m : Int → Int → Int) (j : Nat) : Value := I (m (j / 4 : Nat) (j % 4 : Nat))
def rowC (r : Int → Int) (j : Nat) : Value := I (r j)
def accA (has cred : Int → Int) : Array Value := Array.ofFn (n := 8) fun j => accC has cred j.val
def matA (m : Int → Int → Int) : Array Value := Array.ofFn (n := 16) fun j => matC m j.val
def rowA (r : Int → Int) : Array Value := Array.ofFn (n := 4) fun j => rowC r j.val
def acc2 (a c : Int) : Array Value := #[I a, I c]
structure PayS where
  src : Int
  dst : Int
  amt : Int
  cls : Int
  sta : Int
  seq : Int
def PayS.cells (p : PayS) : Array Value := #[I p.src, I p.dst, I p.amt, I p.cls, I p.sta, I p.seq]
structure H where
  has : Int → Int
  cred : Int → Int
  sent : Int → Int → Int
  lim : Int → Int → Int
  pa : Option Addr
  pl : Nat
  pc : Nat
  next : Int
def H.pays (h : H) : Value := .slice h.pa h.pl h.pc
def H.cell (h : H) (j : Nat) : Value :=
  if j < 8 then accC h.has h.cred j
  else if j < 24 then matC h.sent (j - 8)
  else if j < 40 then matC h.lim (j - 24)
  else if j = 40 then .slice h.pa h.pl h.pc else I h.next
def H.cells (h : H) : Array Value := Array.ofFn (n := 42) fun j => h.cell j.val

def zeroH : H := { has := fun _ => 0, cred := fun _ => 0, sent := fun _ _ => 0, lim := fun _ _ => 0, pa := none, pl := 0, pc := 0, next := 0 }
def up1 (g : Int → Int) (i v : Int) : Int → Int := fun x => if x = i then v else g x
def up2 (g : Int → Int → Int) (i k v : Int) : Int → Int → Int := fun x y => if x = i ∧ y = k then v else g x y

theorem H.size (h : H) : h.cells.size = 42 := by simp [H.cells]
theorem accA_size (a b : Int → Int) : (accA a b).size = 8 := by simp [accA]
theorem matA_size (m : Int → Int → Int) : (matA m).size = 16 := by simp [matA]
theorem rowA_size (m : Int → Int) : (rowA m).size = 4 := by simp [rowA]

theorem H.at_has (h : H) {i : Int} (hi : 0 ≤ i ∧ i < 4) : h.cells[0 + 0 + i.toNat * 2 + 0]? = some (I (h.has i)) := by
  rw [H.cells, getq _ (by omega)]
  have e : ((0 + 0 + i.toNat * 2 + 0) / 2 : Nat) = i.toNat := by omega
  have : ((i.toNat : Nat) : Int) = i := by omega
  simp only [H.cell, accC, if_pos (show 0 + 0 + i.toNat * 2 + 0 < 8 by omega), if_pos (show (0 + 0 + i.toNat * 2 + 0) % 2 = 0 by omega), e, this]
theorem H.at_cred (h : H) {i : Int} (hi : 0 ≤ i ∧ i < 4) : h.cells[0 + 0 + i.toNat * 2 + 1]? = some (I (h.cred i)) := by
  rw [H.cells, getq _ (by omega)]
  have e : ((0 + 0 + i.toNat * 2 + 1) / 2 : Nat) = i.toNat := by omega
  have : ((i.toNat : Nat) : Int) = i := by omega
  simp only [H.cell, accC, if_pos (show 0 + 0 + i.toNat * 2 + 1 < 8 by omega), if_neg (show ¬ (0 + 0 + i.toNat * 2 + 1) % 2 = 0 by omega), e, this]
theorem H.at_sent (h : H) {i k : Int} (hi : 0 ≤ i ∧ i < 4) (hk : 0 ≤ k ∧ k < 4) : h.cells[0 + 8 + i.toNat * 4 + k.toNat * 1]? = some (I (h.sent i k)) := by
  rw [H.cells, getq _ (by omega)]
  have e : ((0 + 8 + i.toNat * 4 + k.toNat * 1 - 8) / 4 : Nat) = i.toNat := by omega
  have e' : ((0 + 8 + i.toNat * 4 + k.toNat * 1 - 8) % 4 : Nat) = k.toNat := by omega
  have h1 : ((i.toNat : Nat) : Int) = i := by omega
  have h2 : ((k.toNat : Nat) : Int) = k := by omega
  simp only [H.cell, matC, if_neg (show ¬ 0 + 8 + i.toNat * 4 + k.toNat * 1 < 8 by omega), if_pos (show 0 + 8 + i.toNat * 4 + k.toNat * 1 < 24 by omega), e, e', h1, h2]
theorem H.at_lim (h : H) {i k : Int} (hi : 0 ≤ i ∧ i < 4) (hk : 0 ≤ k ∧ k < 4) : h.cells[0 + 24 + i.toNat * 4 + k.toNat * 1]? = some (I (h.lim i k)) := by
  rw [H.cells, getq _ (by omega)]
  have e : ((0 + 24 + i.toNat * 4 + k.toNat * 1 - 24) / 4 : Nat) = i.toNat := by omega
  have e' : ((0 + 24 + i.toNat * 4 + k.toNat * 1 - 24) % 4 : Nat) = k.toNat := by omega
  have h1 : ((i.toNat : Nat) : Int) = i := by omega
  have h2 : ((k.toNat : Nat) : Int) = k := by omega
  simp only [H.cell, matC, if_neg (show ¬ 0 + 24 + i.toNat * 4 + k.toNat * 1 < 8 by omega), if_neg (show ¬ 0 + 24 + i.toNat * 4 + k.toNat * 1 < 24 by omega), if_pos (show 0 + 24 + i.toNat * 4 + k.toNat * 1 < 40 by omega), e, e', h1, h2]
theorem H.at_pays (h : H) : h.cells[0 + 40]? = some (.slice h.pa h.pl h.pc) := by rw [H.cells, getq _ (by omega)]; simp [H.cell]
theorem H.at_next (h : H) : h.cells[0 + 41]? = some (I h.next) := by rw [H.cells, getq _ (by omega)]; simp [H.cell]
theorem H.ex_acc (h : H) : h.cells.extract (0 + 0) (0 + 0 + 8) = accA h.has h.cred := extq _ _ (by omega) (fun i hi => by simp [H.cell, hi])
theorem H.ex_acc1 (h : H) {i : Int} (hi : 0 ≤ i ∧ i < 4) : h.cells.extract (0 + 0 + i.toNat * 2) (0 + 0 + i.toNat * 2 + 2) = acc2 (h.has i) (h.cred i) := by
  have h1 := h.at_has hi
  have h2 := h.at_cred hi
  apply Array.ext_getElem?
  intro j
  rw [Array.getElem?_extract]
  rcases j with _ | _ | j
  · rw [if_pos (by rw [H.size]; omega)]; simpa [acc2] using h1
  · rw [if_pos (by rw [H.size]; omega)]; simpa [acc2] using h2
  · rw [if_neg (by rw [H.size]; omega)]; simp [acc2]
theorem H.ex_sent (h : H) : h.cells.extract (0 + 8) (0 + 8 + 16) = matA h.sent := extq _ _ (by omega) (fun i hi => by
  simp only [H.cell, if_neg (show ¬ 0 + 8 + i < 8 by omega), if_pos (show 0 + 8 + i < 24 by omega)]; congr 1; omega)
theorem H.ex_lim (h : H) : h.cells.extract (0 + 24) (0 + 24 + 16) = matA h.lim := extq _ _ (by omega) (fun i hi => by
  simp only [H.cell, if_neg (show ¬ 0 + 24 + i < 8 by omega), if_neg (show ¬ 0 + 24 + i < 24 by omega), if_pos (show 0 + 24 + i < 40 by omega)]; congr 1; omega)
theorem accA_at (a c : Int → Int) {i : Int} (hi : 0 ≤ i ∧ i < 4) : (accA a c).extract (i.toNat * 2) (i.toNat * 2 + 2) = acc2 (a i) (c i) := by
  have h1 : ((i.toNat : Nat) : Int) = i := by omega
  apply Array.ext_getElem?
  intro j
  rw [Array.getElem?_extract]
  rcases j with _ | _ | j
  · rw [if_pos (by rw [accA_size]; omega), accA, getq _ (by omega)]
    simp only [accC, acc2, Nat.add_zero, if_pos (show i.toNat * 2 % 2 = 0 by omega), show i.toNat * 2 / 2 = i.toNat by omega, h1]; rfl
  · rw [if_pos (by rw [accA_size]; omega), accA, getq _ (by omega)]
    simp only [accC, acc2, if_neg (show ¬ (i.toNat * 2 + (0 + 1)) % 2 = 0 by omega), show (i.toNat * 2 + (0 + 1)) / 2 = i.toNat by omega, h1]; rfl
  · rw [if_neg (by rw [accA_size]; omega)]; simp [acc2]
theorem matA_row (m : Int → Int → Int) {i : Int} (hi : 0 ≤ i ∧ i < 4) : (matA m).extract (i.toNat * 4) (i.toNat * 4 + 4) = rowA (m i) := extq _ _ (by omega) (fun j hj => by
  have h1 : ((i.toNat : Nat) : Int) = i := by omega
  simp only [matC, rowC, show (i.toNat * 4 + j) / 4 = i.toNat by omega, show (i.toNat * 4 + j) % 4 = j by omega, h1])
theorem rowA_at (r : Int → Int) {i : Int} (hi : 0 ≤ i ∧ i < 4) : (rowA r)[i.toNat * 1]? = some (I (r i)) := by
  have h1 : ((i.toNat : Nat) : Int) = i := by omega
  rw [rowA, getq _ (by omega)]
  simp only [rowC, Nat.mul_one, h1]
theorem rowA_at0 (r : Int → Int) {i : Int} (hi : 0 ≤ i ∧ i < 4) : (rowA r)[0 + i.toNat * 1]? = some (I (r i)) := by rw [Nat.zero_add]; exact rowA_at r hi
theorem acc2_all (a c : Int) : (acc2 a c).all (·.oneCell') = true := by simp [acc2, Value.oneCell']

theorem ofFn_all {n : Nat} (g : Nat → Value) (hg : ∀ i, (g i).oneCell' = true) : (Array.ofFn (n := n) fun i => g i.val).all (·.oneCell') = true := by
  rw [Array.all_eq_true_iff_forall_mem]
  intro v hv
  obtain ⟨j, hj, rfl⟩ := Array.mem_iff_getElem.1 hv
  simp only [Array.getElem_ofFn, hg]
theorem rowA_all (r : Int → Int) : (rowA r).all (·.oneCell') = true := ofFn_all _ fun _ => rfl
theorem matA_all (m : Int → Int → Int) : (matA m).all (·.oneCell') = true := ofFn_all _ fun _ => rfl
theorem accA_all (a c : Int → Int) : (accA a c).all (·.oneCell') = true := ofFn_all _ fun i => by unfold accC; split <;> rfl
theorem PayS.all1 (p : PayS) : p.cells.all (·.oneCell') = true := by simp [PayS.cells, Value.oneCell']
theorem H.set_has (h : H) {i v : Int} (hi : 0 ≤ i ∧ i < 4) : 0 + 0 + i.toNat * 2 + 0 < h.cells.size ∧ h.cells.setIfInBounds (0 + 0 + i.toNat * 2 + 0) (I v) = ({ h with has := up1 h.has i v } : H).cells := by
  refine ⟨by rw [H.size]; omega, setq _ _ fun j hj => ?_⟩
  simp only [H.cell, accC, up1]
  by_cases e : j = 0 + 0 + i.toNat * 2 + 0
  · have e1 : ((j / 2 : Nat) : Int) = i := by omega
    simp only [if_pos e, if_pos (show j < 8 by omega), if_pos (show j % 2 = 0 by omega), if_pos e1]
  · simp only [if_neg e]
    by_cases h8 : j < 8
    · simp only [if_pos h8]
      by_cases h2 : j % 2 = 0
      · simp only [if_pos h2, if_neg (show ¬ ((j / 2 : Nat) : Int) = i by omega)]
      · simp only [if_neg h2]
    · simp only [if_neg h8]
theorem H.set_cred (h : H) {i v : Int} (hi : 0 ≤ i ∧ i < 4) : 0 + 0 + i.toNat * 2 + 1 < h.cells.size ∧ h.cells.setIfInBounds (0 + 0 + i.toNat * 2 + 1) (I v) = ({ h with cred := up1 h.cred i v } : H).cells := by
  refine ⟨by rw [H.size]; omega, setq _ _ fun j hj => ?_⟩
  simp only [H.cell, accC, up1]
  by_cases e : j = 0 + 0 + i.toNat * 2 + 1
  · have e1 : ((j / 2 : Nat) : Int) = i := by omega
    simp only [if_pos e, if_pos (show j < 8 by omega), if_neg (show ¬ j % 2 = 0 by omega), if_pos e1]
  · simp only [if_neg e]
    by_cases h8 : j < 8
    · simp only [if_pos h8]
      by_cases h2 : j % 2 = 0
      · simp only [if_pos h2]
      · simp only [if_neg h2, if_neg (show ¬ ((j / 2 : Nat) : Int) = i by omega)]
    · simp only [if_neg h8]
theorem H.set_sent (h : H) {i k v : Int} (hi : 0 ≤ i ∧ i < 4) (hk : 0 ≤ k ∧ k < 4) : 0 + 8 + i.toNat * 4 + k.toNat * 1 < h.cells.size ∧ h.cells.setIfInBounds (0 + 8 + i.toNat * 4 + k.toNat * 1) (I v) = ({ h with sent := up2 h.sent i k v } : H).cells := by
  refine ⟨by rw [H.size]; omega, setq _ _ fun j hj => ?_⟩
  simp only [H.cell, matC, up2]
  by_cases e : j = 0 + 8 + i.toNat * 4 + k.toNat * 1
  · have e1 : (((j - 8) / 4 : Nat) : Int) = i ∧ (((j - 8) % 4 : Nat) : Int) = k := by omega
    simp only [if_pos e, if_neg (show ¬ j < 8 by omega), if_pos (show j < 24 by omega), if_pos e1]
  · simp only [if_neg e]
    by_cases h8 : j < 8
    · simp only [if_pos h8]
    · simp only [if_neg h8]
      by_cases h24 : j < 24
      · simp only [if_pos h24, if_neg (show ¬ ((((j - 8) / 4 : Nat) : Int) = i ∧ (((j - 8) % 4 : Nat) : Int) = k) by omega)]
      · simp only [if_neg h24]
theorem H.set_lim (h : H) {i k v : Int} (hi : 0 ≤ i ∧ i < 4) (hk : 0 ≤ k ∧ k < 4) : 0 + 24 + i.toNat * 4 + k.toNat * 1 < h.cells.size ∧ h.cells.setIfInBounds (0 + 24 + i.toNat * 4 + k.toNat * 1) (I v) = ({ h with lim := up2 h.lim i k v } : H).cells := by
  refine ⟨by rw [H.size]; omega, setq _ _ fun j hj => ?_⟩
  simp only [H.cell, matC, up2]
  by_cases e : j = 0 + 24 + i.toNat * 4 + k.toNat * 1
  · have e1 : (((j - 24) / 4 : Nat) : Int) = i ∧ (((j - 24) % 4 : Nat) : Int) = k := by omega
    simp only [if_pos e, if_neg (show ¬ j < 8 by omega), if_neg (show ¬ j < 24 by omega), if_pos (show j < 40 by omega), if_pos e1]
  · simp only [if_neg e]
    by_cases h8 : j < 8
    · simp only [if_pos h8]
    · simp only [if_neg h8]
      by_cases h24 : j < 24
      · simp only [if_pos h24]
      · simp only [if_neg h24]
        by_cases h40 : j < 40
        · simp only [if_pos h40, if_neg (show ¬ ((((j - 24) / 4 : Nat) : Int) = i ∧ (((j - 24) % 4 : Nat) : Int) = k) by omega)]
        · simp only [if_neg h40]
theorem H.set_pays (h : H) {a : Option Addr} {l c : Nat} : 0 + 40 < h.cells.size ∧ h.cells.setIfInBounds (0 + 40) (.slice a l c) = ({ h with pa := a, pl := l, pc := c } : H).cells := by
  refine ⟨by rw [H.size]; omega, setq _ _ fun j hj => ?_⟩
  simp only [H.cell]
  by_cases e : j = 0 + 40
  · subst e; simp
  · simp only [if_neg e, if_neg (show ¬ j = 40 by omega)]
theorem H.set_next (h : H) {v : Int} : 0 + 41 < h.cells.size ∧ h.cells.setIfInBounds (0 + 41) (I v) = ({ h with next := v } : H).cells := by
  refine ⟨by rw [H.size]; omega, setq _ _ fun j hj => ?_⟩
  simp only [H.cell]
  by_cases e : j = 0 + 41
  · subst e; simp
  · simp only [if_neg e, if_neg (show ¬ 41 = 40 by omega)]
    split
    · rfl
    · split
      · rfl
      · split
        · rfl
        · rw [if_pos (by omega)]; rw [if_pos (by omega)]
theorem H.all1 (h : H) : h.cells.all (·.oneCell') = true := by
  rw [Array.all_eq_true_iff_forall_mem]
  intro v hv
  obtain ⟨j, hj, rfl⟩ := Array.mem_iff_getElem.1 hv
  simp only [H.cells, Array.getElem_ofFn, H.cell, accC, matC]
  split
  · split <;> rfl
  · split
    · rfl
    · split
      · rfl
      · split
        · rfl
        · rfl
theorem H.cells_eq {h k : H} (h1 : ∀ i : Int, 0 ≤ i → i < 4 → h.has i = k.has i) (h2 : ∀ i : Int, 0 ≤ i → i < 4 → h.cred i = k.cred i) (h3 : ∀ i j : Int, 0 ≤ i → i < 4 → 0 ≤ j → j < 4 → h.sent i j = k.sent i j)
    (h4 : ∀ i j : Int, 0 ≤ i → i < 4 → 0 ≤ j → j < 4 → h.lim i j = k.lim i j) (h5 : h.pa = k.pa ∧ h.pl = k.pl ∧ h.pc = k.pc) (h6 : h.next = k.next) : h.cells = k.cells := sameq _ _ fun j hj => by
  simp only [H.cell, accC, matC, h5.1, h5.2.1, h5.2.2, h6]
  split
  · rw [h1 _ (by omega) (by omega), h2 _ (by omega) (by omega)]
  · split
    · rw [h3 _ _ (by omega) (by omega) (by omega) (by omega)]
    · split
      · rw [h4 _ _ (by omega) (by omega) (by omega) (by omega)]
      · rfl
end Go.Proofs.Ytmkboljfbmlebaa
