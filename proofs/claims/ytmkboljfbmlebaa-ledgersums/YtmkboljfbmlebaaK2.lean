/- The laws of single operations, each in every world of a class. No condition. -/
import Derived.Test.YtmkboljfbmlebaaK1
import Derived.Laws.Tables
import Derived.Laws.CopyRow
import Derived.WalkKit
namespace Go.Proofs.Ytmkboljfbmlebaa
open Go.RowKit
set_option linter.unusedSimpArgs false
set_option linter.unusedVariables false

/-! closed facts on types -/
def scalarB (P : Program) (T : TypeId) : Bool := match P.underlying T with
  | some (.struct _) => false
  | some (.array _ _) => false
  | some _ => true
  | none => false
def sizeB (P : Program) (T n : Nat) : Bool := match P.info? T with
  | some i => Nat.beq i.size n
  | none => false
def aggB (P : Program) (T n : Nat) : Bool := (match P.underlying T with
  | some (.struct _) => true
  | some (.array _ _) => true
  | _ => false) && sizeB P T n
def fieldB (P : Program) (T k fo : Nat) : Bool := match P.underlying T with
  | some (.struct fs) => (match fs[k]? with
    | some f => Nat.beq f.offset fo && (match P.info? f.type with | some i => !Nat.beq i.size 0 | none => false)
    | none => false)
  | _ => false
def arrB (P : Program) (T len size : Nat) : Bool := match P.underlying T with
  | some (.array l e) => Nat.beq l len && sizeB P e size
  | _ => false
def slB (P : Program) (T size : Nat) : Bool := match P.underlying T with
  | some (.slice e) => sizeB P e size
  | _ => false
def partB (P : Program) (T k t fo : Nat) : Bool := match P.underlying T with
  | some (.struct fs) => (match fs[k]? with
    | some f => Nat.beq f.offset fo && Nat.beq f.type t
    | none => false)
  | _ => false
def elemB (P : Program) (T len t size : Nat) : Bool := match P.underlying T with
  | some (.array l e) => Nat.beq l len && Nat.beq e t && sizeB P e size
  | _ => false

section
variable {P : Program} {w : World}
theorem sizeB_run {T n : Nat} (h : sizeB P T n = true) : (sizeOf T).run P w = .ok n w := by
  unfold sizeB at h
  split at h
  · rename_i i hi
    have := Nat.eq_of_beq_eq_true h
    simp [sizeOf, typeInfo, hi, this]
  · cases h
theorem sizeB_info {T n : Nat} (h : sizeB P T n = true) : (P.info? T).map (·.size) = some n := by
  unfold sizeB at h
  split at h
  · rename_i i hi
    have := Nat.eq_of_beq_eq_true h
    simp [hi, this]
  · cases h
theorem scalarB_run {T : Nat} (h : scalarB P T = true) : (isAgg T).run P w = .ok false w := by
  unfold scalarB at h
  cases hu : P.underlying T with
  | none => rw [hu] at h; cases h
  | some d =>
    rw [hu] at h
    cases d <;> first
      | (cases h; done)
      | simp [isAgg, underlying, hu]
theorem aggB_run {T n : Nat} (h : aggB P T n = true) : (isAgg T).run P w = .ok true w := by
  unfold aggB at h
  simp only [Bool.and_eq_true] at h
  cases hu : P.underlying T with
  | none => rw [hu] at h; cases h.1
  | some d =>
    rw [hu] at h
    cases d <;> first
      | (cases h.1; done)
      | simp [isAgg, underlying, hu]
theorem aggB_size {T n : Nat} (h : aggB P T n = true) : sizeB P T n = true := by
  unfold aggB at h
  simp only [Bool.and_eq_true] at h
  exact h.2
end

/-- One value in every world of the class, and the world as it was. -/
structure Val (P : Program) (f : Nat → Value) (C : World → Prop) (o : Oper) (v : Value) : Prop where
  out : ∀ w, C w → (execOp (ev f) o).run P w = .ok (.value v) w

section
variable {P : Program} {ops : Array Oper} {K : (Nat → Value) → World → Prop} {KQ : (Nat → Value) → Prop} {rest : List Oper} {f : Nat → Value} {C : World → Prop}
  {d : Nat} {op : Op} {ty : TypeId} {pos : String} {af : Array Edge}

theorem wanted_free {dst : Option Nat} {g : Nat → Option Bool} : Region.wanted ⟨dst, op, ty, pos, af, none⟩ g = true := rfl
theorem s_val {v : Value} (h : Val P f C ⟨some d, op, ty, pos, af, none⟩ v) (k : sC P ops K rest (upd f d v) C) : sC P ops K (⟨some d, op, ty, pos, af, none⟩ :: rest) f C := by
  intro w hw
  unfold sw
  rw [if_pos wanted_free]
  unfold opk
  rw [h.out w hw]
  exact k w hw
theorem q_val {v : Value} (h : Val P f C ⟨some d, op, ty, pos, af, none⟩ v) (k : qw P ops C KQ rest (upd f d v)) : qw P ops C KQ (⟨some d, op, ty, pos, af, none⟩ :: rest) f := by
  unfold qw
  rw [if_pos wanted_free]
  exact ⟨v, fun w hw => by rw [h.out w hw]; exact ⟨rfl, rfl⟩, k⟩

/-! guards -/
theorem wanted_of {j s : Nat} {b g : Bool} {dst : Option Nat} (hj : (ops[j]?).bind (·.dst) = some s) (hs : f s = .bool g) : Region.wanted ⟨dst, op, ty, pos, af, some (j, b)⟩ (yf ops f) = (g == b) := by
  unfold Region.wanted yf
  simp only [hj, hs]
  cases g <;> cases b <;> rfl
theorem wanted_no {j s : Nat} {b : Bool} {dst : Option Nat} (hj : (ops[j]?).bind (·.dst) = some s) (hs : f s = undef) : Region.wanted ⟨dst, op, ty, pos, af, some (j, b)⟩ (yf ops f) = false := by
  unfold Region.wanted yf
  simp only [hj, hs]
  rfl
theorem s_want {j s : Nat} {b g : Bool} {dst : Option Nat} (hj : (ops[j]?).bind (·.dst) = some s) (hs : f s = .bool g) (hg : g = b) (k : sC P ops K (⟨dst, op, ty, pos, af, none⟩ :: rest) f C) :
    sC P ops K (⟨dst, op, ty, pos, af, some (j, b)⟩ :: rest) f C := by
  intro w hw
  have := k w hw
  unfold sw at this ⊢
  rw [if_pos wanted_free] at this
  rw [wanted_of hj hs, if_pos (by simp [hg])]
  exact this
theorem s_pass {j s : Nat} {b g : Bool} {dst : Option Nat} (hj : (ops[j]?).bind (·.dst) = some s) (hs : f s = .bool g) (hg : g = !b) (k : sC P ops K rest (updo f dst undef) C) :
    sC P ops K (⟨dst, op, ty, pos, af, some (j, b)⟩ :: rest) f C := by
  intro w hw
  unfold sw
  rw [wanted_of hj hs, if_neg (by simp [hg])]
  exact k w hw
theorem s_passU {j s : Nat} {b : Bool} {dst : Option Nat} (hj : (ops[j]?).bind (·.dst) = some s) (hs : f s = undef) (k : sC P ops K rest (updo f dst undef) C) :
    sC P ops K (⟨dst, op, ty, pos, af, some (j, b)⟩ :: rest) f C := by
  intro w hw
  unfold sw
  rw [wanted_no hj hs, if_neg (by simp)]
  exact k w hw
theorem q_want {j s : Nat} {b g : Bool} {dst : Option Nat} (hj : (ops[j]?).bind (·.dst) = some s) (hs : f s = .bool g) (hg : g = b) (k : qw P ops C KQ (⟨dst, op, ty, pos, af, none⟩ :: rest) f) :
    qw P ops C KQ (⟨dst, op, ty, pos, af, some (j, b)⟩ :: rest) f := by
  unfold qw at k ⊢
  rw [if_pos wanted_free] at k
  rw [wanted_of hj hs, if_pos (by simp [hg])]
  exact k
theorem q_pass {j s : Nat} {b g : Bool} {dst : Option Nat} (hj : (ops[j]?).bind (·.dst) = some s) (hs : f s = .bool g) (hg : g = !b) (k : qw P ops C KQ rest (updo f dst undef)) :
    qw P ops C KQ (⟨dst, op, ty, pos, af, some (j, b)⟩ :: rest) f := by
  unfold qw
  rw [wanted_of hj hs, if_neg (by simp [hg])]
  exact k
theorem q_passU {j s : Nat} {b : Bool} {dst : Option Nat} (hj : (ops[j]?).bind (·.dst) = some s) (hs : f s = undef) (k : qw P ops C KQ rest (updo f dst undef)) :
    qw P ops C KQ (⟨dst, op, ty, pos, af, some (j, b)⟩ :: rest) f := by
  unfold qw
  rw [wanted_no hj hs, if_neg (by simp)]
  exact k
/-- both ways -/
theorem s_split {s : Nat} {g : Bool} {l : List Oper} (hs : f s = .bool g) (ht : g = true → sC P ops K l f C) (hf : g = false → sC P ops K l f C) : sC P ops K l f C := by cases g; exact hf rfl; exact ht rfl
theorem q_split {s : Nat} {g : Bool} {l : List Oper} (hs : f s = .bool g) (ht : g = true → qw P ops C KQ l f) (hf : g = false → qw P ops C KQ l f) : qw P ops C KQ l f := by cases g; exact hf rfl; exact ht rfl
theorem s_splitN {s : Nat} {g : Bool} {l : List Oper} (hs : f s = .bool (!g)) (ht : g = false → sC P ops K l f C) (hf : g = true → sC P ops K l f C) : sC P ops K l f C := by cases g; exact ht rfl; exact hf rfl
theorem q_splitN {s : Nat} {g : Bool} {l : List Oper} (hs : f s = .bool (!g)) (ht : g = false → qw P ops C KQ l f) (hf : g = true → qw P ops C KQ l f) : qw P ops C KQ l f := by cases g; exact ht rfl; exact hf rfl
theorem c_condN {n : Nat} {Q : Exit → (Nat → Value) → World → Prop} {c : Operand} {x y : Code} {g : Bool} (hB : opndB n c = true) (hc : ev f c = .bool (!g)) (ht : g = false → cC P n x Q f C) (hf : g = true → cC P n y Q f C) : cC P n (.cond c x y) Q f C := by
  cases g
  · exact c_condT hB hc (ht rfl)
  · exact c_condF hB hc (hf rfl)
theorem s_splitR {s : Nat} {g : Bool} {l : List Oper} (hs : f s = .bool g) (hf : g = false → sC P ops K l f C) (ht : g = true → sC P ops K l f C) : sC P ops K l f C := s_split hs ht hf
theorem q_splitR {s : Nat} {g : Bool} {l : List Oper} (hs : f s = .bool g) (hf : g = false → qw P ops C KQ l f) (ht : g = true → qw P ops C KQ l f) : qw P ops C KQ l f := q_split hs ht hf
theorem s_splitNR {s : Nat} {g : Bool} {l : List Oper} (hs : f s = .bool (!g)) (hf : g = true → sC P ops K l f C) (ht : g = false → sC P ops K l f C) : sC P ops K l f C := s_splitN hs ht hf
theorem q_splitNR {s : Nat} {g : Bool} {l : List Oper} (hs : f s = .bool (!g)) (hf : g = true → qw P ops C KQ l f) (ht : g = false → qw P ops C KQ l f) : qw P ops C KQ l f := q_splitN hs ht hf
theorem c_condR {n : Nat} {Q : Exit → (Nat → Value) → World → Prop} {c : Operand} {x y : Code} {g : Bool} (hB : opndB n c = true) (hc : ev f c = .bool g) (hf : g = false → cC P n y Q f C) (ht : g = true → cC P n x Q f C) : cC P n (.cond c x y) Q f C := c_cond hB hc ht hf
theorem c_condNR {n : Nat} {Q : Exit → (Nat → Value) → World → Prop} {c : Operand} {x y : Code} {g : Bool} (hB : opndB n c = true) (hc : ev f c = .bool (!g)) (hf : g = true → cC P n y Q f C) (ht : g = false → cC P n x Q f C) : cC P n (.cond c x y) Q f C := c_condN hB hc ht hf
theorem c_condTh {n : Nat} {Q : Exit → (Nat → Value) → World → Prop} {c : Operand} {x y : Code} {b : Bool} (hB : opndB n c = true) (hc : ev f c = .bool b) (hb : b = true) (h : cC P n x Q f C) : cC P n (.cond c x y) Q f C := c_condT hB (hc.trans (by rw [hb])) h
theorem c_condFh {n : Nat} {Q : Exit → (Nat → Value) → World → Prop} {c : Operand} {x y : Code} {b : Bool} (hB : opndB n c = true) (hc : ev f c = .bool b) (hb : b = false) (h : cC P n y Q f C) : cC P n (.cond c x y) Q f C := c_condF hB (hc.trans (by rw [hb])) h

theorem by_bool {X : Prop} (g : Bool) (ht : g = true → X) (hf : g = false → X) : X := by cases g; exact hf rfl; exact ht rfl
end

section
variable {P : Program} {f : Nat → Value} {C : World → Prop} {dst : Option Nat} {ty : TypeId} {pos : String} {af : Array Edge} {gd : Option (Nat × Bool)} {w0 : World} {F : Addr → Value → Prop} {L : List (Nat × Obj)}

theorem v_move {x : Operand} {v : Value} (hx : ev f x = v) : Val P f C ⟨dst, .move x, ty, pos, af, gd⟩ v := ⟨fun w _ => by simp [execOp, hx]⟩
theorem v_assign {x : Operand} {v : Value} (hx : ev f x = v) : Val P f C ⟨dst, .assign x, ty, pos, af, gd⟩ v := ⟨fun w _ => by simp [execOp, hx]⟩
theorem v_pickT {c a b : Operand} {g : Bool} {v : Value} (hc : ev f c = .bool g) (hg : g = true) (ha : ev f a = v) : Val P f C ⟨dst, .pick c a b, ty, pos, af, gd⟩ v :=
  ⟨fun w _ => by simp [execOp, hc, asBool, hg, ha]⟩
theorem v_pickF {c a b : Operand} {g : Bool} {v : Value} (hc : ev f c = .bool g) (hg : g = false) (hb : ev f b = v) : Val P f C ⟨dst, .pick c a b, ty, pos, af, gd⟩ v :=
  ⟨fun w _ => by simp [execOp, hc, asBool, hg, hb]⟩
theorem v_not {x : Operand} {t : TypeId} {b : Bool} (hx : ev f x = .bool b) : Val P f C ⟨dst, .unOp .not t x, ty, pos, af, gd⟩ (.bool (!b)) :=
  ⟨fun w _ => by simp [execOp, hx, Op.unary]⟩

theorem eqGuard_int {op : BinOp} {t : TypeId} {x y : Operand} {k k' : IntKind} {a b : Int} {w : World} : (eqGuard op t x y (.int k a) (.int k' b)).run P w = .ok () w := by
  unfold eqGuard
  cases op <;> simp
theorem v_lss {x y : Operand} {t t' : TypeId} {k : IntKind} {a b : Int} (hx : ev f x = .int k a) (hy : ev f y = .int k b) : Val P f C ⟨dst, .binOp .lss t x y t', ty, pos, af, gd⟩ (.bool (decide (a < b))) :=
  ⟨fun w _ => by simp [execOp, hx, hy, eqGuard_int, binOp, Op.intCmp]⟩
theorem v_leq {x y : Operand} {t t' : TypeId} {k : IntKind} {a b : Int} (hx : ev f x = .int k a) (hy : ev f y = .int k b) : Val P f C ⟨dst, .binOp .leq t x y t', ty, pos, af, gd⟩ (.bool (decide (a ≤ b))) :=
  ⟨fun w _ => by simp [execOp, hx, hy, eqGuard_int, binOp, Op.intCmp]⟩
theorem v_gtr {x y : Operand} {t t' : TypeId} {k : IntKind} {a b : Int} (hx : ev f x = .int k a) (hy : ev f y = .int k b) : Val P f C ⟨dst, .binOp .gtr t x y t', ty, pos, af, gd⟩ (.bool (decide (b < a))) :=
  ⟨fun w _ => by simp [execOp, hx, hy, eqGuard_int, binOp, Op.intCmp]⟩
theorem v_geq {x y : Operand} {t t' : TypeId} {k : IntKind} {a b : Int} (hx : ev f x = .int k a) (hy : ev f y = .int k b) : Val P f C ⟨dst, .binOp .geq t x y t', ty, pos, af, gd⟩ (.bool (decide (b ≤ a))) :=
  ⟨fun w _ => by simp [execOp, hx, hy, eqGuard_int, binOp, Op.intCmp]⟩
theorem v_eql {x y : Operand} {t t' : TypeId} {k : IntKind} {a b : Int} (hx : ev f x = .int k a) (hy : ev f y = .int k b) : Val P f C ⟨dst, .binOp .eql t x y t', ty, pos, af, gd⟩ (.bool (decide (a = b))) :=
  ⟨fun w _ => by simp [execOp, hx, hy, eqGuard_int, binOp, Op.intCmp]; rw [Bool.eq_iff_iff]; simp⟩
theorem v_neq {x y : Operand} {t t' : TypeId} {k : IntKind} {a b : Int} (hx : ev f x = .int k a) (hy : ev f y = .int k b) : Val P f C ⟨dst, .binOp .neq t x y t', ty, pos, af, gd⟩ (.bool (!decide (a = b))) :=
  ⟨fun w _ => by simp [execOp, hx, hy, eqGuard_int, binOp, Op.intCmp]; rw [Bool.eq_iff_iff]; simp⟩

theorem eqGuard_bool {op : BinOp} {t : TypeId} {x y : Operand} {a b : Bool} {w : World} : (eqGuard op t x y (.bool a) (.bool b)).run P w = .ok () w := by
  unfold eqGuard
  cases op <;> simp
def boolB (P : Program) (T : TypeId) : Bool := match P.underlying T with
  | some .bool => true
  | _ => false
theorem boolB_spec {T : TypeId} (h : boolB P T = true) : P.underlying T = some .bool := by
  unfold boolB at h
  split at h
  · assumption
  · cases h
theorem v_eqlB {x y : Operand} {t t' : TypeId} {a b : Bool} (hT : boolB P t = true) (hx : ev f x = .bool a) (hy : ev f y = .bool b) : Val P f C ⟨dst, .binOp .eql t x y t', ty, pos, af, gd⟩ (.bool (a == b)) :=
  ⟨fun w _ => by simp [execOp, hx, hy, eqGuard_bool, binOp, run_equal_bool w t a b (boolB_spec hT)]⟩
theorem v_neqB {x y : Operand} {t t' : TypeId} {a b : Bool} (hT : boolB P t = true) (hx : ev f x = .bool a) (hy : ev f y = .bool b) : Val P f C ⟨dst, .binOp .neq t x y t', ty, pos, af, gd⟩ (.bool (!(a == b))) :=
  ⟨fun w _ => by simp [execOp, hx, hy, eqGuard_bool, binOp, run_equal_bool w t a b (boolB_spec hT)]⟩
/-- the first i of a slice -/
theorem v_sliceHi {x y : Operand} {T m : Nat} {a : Option Addr} {len cap : Nat} {k : IntKind} {i : Int} (hT : slB P T m = true) (hx : ev f x = .slice a len cap) (hy : ev f y = .int k i) (hi : 0 ≤ i ∧ i ≤ cap) :
    Val P f C ⟨dst, .slice T x none (some y) none, ty, pos, af, gd⟩ (.slice a i.toNat cap) :=
  ⟨fun w _ => by
    unfold slB at hT
    split at hT
    · rename_i e hu
      have hz := sizeB_run (w := w) hT
      have ha : Option.map (fun x : Addr => x.add 0) a = a := by cases a <;> simp [Addr.add]
      simp [execOp, hx, hy, Instr.sliceAt, underlying, hu, Instr.slice, Instr.sliceBounds, Instr.sliceBound, asIntOf, hi, hz, ha]
    · cases hT⟩
def wr (n : Int) : Int := IntKind.i64.wrap n
theorem wrap_in {a : Int} (h1 : -9223372036854775808 ≤ a) (h2 : a ≤ 9223372036854775807) : IntKind.i64.wrap a = a := IntWalk.i64_in _ ⟨by omega, by omega⟩
theorem v_addk {x y : Operand} {t t' : TypeId} {k : IntKind} {a b : Int} (hx : ev f x = .int k a) (hy : ev f y = .int k b) : Val P f C ⟨dst, .binOp .add t x y t', ty, pos, af, gd⟩ (.int k (k.wrap (a + b))) :=
  ⟨fun w _ => by simp [execOp, hx, hy, eqGuard_int, binOp, Op.intArith]⟩
theorem v_subk {x y : Operand} {t t' : TypeId} {k : IntKind} {a b : Int} (hx : ev f x = .int k a) (hy : ev f y = .int k b) : Val P f C ⟨dst, .binOp .sub t x y t', ty, pos, af, gd⟩ (.int k (k.wrap (a - b))) :=
  ⟨fun w _ => by simp [execOp, hx, hy, eqGuard_int, binOp, Op.intArith]⟩
theorem v_mulk {x y : Operand} {t t' : TypeId} {k : IntKind} {a b : Int} (hx : ev f x = .int k a) (hy : ev f y = .int k b) : Val P f C ⟨dst, .binOp .mul t x y t', ty, pos, af, gd⟩ (.int k (k.wrap (a * b))) :=
  ⟨fun w _ => by simp [execOp, hx, hy, eqGuard_int, binOp, Op.intArith]⟩
theorem v_addw {x y : Operand} {t t' : TypeId} {a b : Int} (hx : ev f x = .int .i64 a) (hy : ev f y = .int .i64 b) : Val P f C ⟨dst, .binOp .add t x y t', ty, pos, af, gd⟩ (.int .i64 (wr (a + b))) := v_addk hx hy
theorem v_add {x y : Operand} {t t' : TypeId} {a b : Int} (hx : ev f x = .int .i64 a) (hy : ev f y = .int .i64 b) (h : -9223372036854775808 ≤ a + b ∧ a + b ≤ 9223372036854775807) : Val P f C ⟨dst, .binOp .add t x y t', ty, pos, af, gd⟩ (.int .i64 (a + b)) := by
  have := v_addk (P := P) (C := C) (dst := dst) (ty := ty) (pos := pos) (af := af) (gd := gd) (t := t) (t' := t') hx hy
  rwa [wrap_in h.1 h.2] at this
theorem v_subw {x y : Operand} {t t' : TypeId} {a b : Int} (hx : ev f x = .int .i64 a) (hy : ev f y = .int .i64 b) : Val P f C ⟨dst, .binOp .sub t x y t', ty, pos, af, gd⟩ (.int .i64 (wr (a - b))) := v_subk hx hy
theorem v_sub {x y : Operand} {t t' : TypeId} {a b : Int} (hx : ev f x = .int .i64 a) (hy : ev f y = .int .i64 b) (h : -9223372036854775808 ≤ a - b ∧ a - b ≤ 9223372036854775807) : Val P f C ⟨dst, .binOp .sub t x y t', ty, pos, af, gd⟩ (.int .i64 (a - b)) := by
  have := v_subk (P := P) (C := C) (dst := dst) (ty := ty) (pos := pos) (af := af) (gd := gd) (t := t) (t' := t') hx hy
  rwa [wrap_in h.1 h.2] at this
theorem v_mulw {x y : Operand} {t t' : TypeId} {a b : Int} (hx : ev f x = .int .i64 a) (hy : ev f y = .int .i64 b) : Val P f C ⟨dst, .binOp .mul t x y t', ty, pos, af, gd⟩ (.int .i64 (wr (a * b))) := v_mulk hx hy
theorem v_mul {x y : Operand} {t t' : TypeId} {a b : Int} (hx : ev f x = .int .i64 a) (hy : ev f y = .int .i64 b) (h : -9223372036854775808 ≤ a * b ∧ a * b ≤ 9223372036854775807) : Val P f C ⟨dst, .binOp .mul t x y t', ty, pos, af, gd⟩ (.int .i64 (a * b)) := by
  have := v_mulk (P := P) (C := C) (dst := dst) (ty := ty) (pos := pos) (af := af) (gd := gd) (t := t) (t' := t') hx hy
  rwa [wrap_in h.1 h.2] at this
theorem v_addL {x y : Operand} {t t' : TypeId} {a b c : Int} (hx : ev f x = .int .i64 a) (hy : ev f y = .int .i64 b) (hc : a + b = c) (h : -9223372036854775808 ≤ c ∧ c ≤ 9223372036854775807) : Val P f C ⟨dst, .binOp .add t x y t', ty, pos, af, gd⟩ (.int .i64 c) := by
  subst hc; exact v_add hx hy h
theorem v_quo {x y : Operand} {t t' : TypeId} {a b c : Int} (hx : ev f x = .int .i64 a) (hy : ev f y = .int .i64 b) (hb : b ≠ 0) (hc : IntKind.i64.wrap (a.tdiv b) = c) : Val P f C ⟨dst, .binOp .quo t x y t', ty, pos, af, gd⟩ (.int .i64 c) :=
  ⟨fun w _ => by simp [execOp, hx, hy, eqGuard_int, binOp, Op.intDiv, hb, hc]⟩
theorem v_rem {x y : Operand} {t t' : TypeId} {a b c : Int} (hx : ev f x = .int .i64 a) (hy : ev f y = .int .i64 b) (hb : b ≠ 0) (hc : a.tmod b = c) : Val P f C ⟨dst, .binOp .rem t x y t', ty, pos, af, gd⟩ (.int .i64 c) :=
  ⟨fun w _ => by simp [execOp, hx, hy, eqGuard_int, binOp, Op.intDiv, hb, hc]⟩
theorem v_negk {x : Operand} {t : TypeId} {k : IntKind} {a : Int} (hx : ev f x = .int k a) : Val P f C ⟨dst, .unOp .neg t x, ty, pos, af, gd⟩ (.int k (k.wrap (0 - a))) :=
  ⟨fun w _ => by simp [execOp, hx, Op.unary, Op.intArith]⟩
theorem v_negw {x : Operand} {t : TypeId} {a : Int} (hx : ev f x = .int .i64 a) : Val P f C ⟨dst, .unOp .neg t x, ty, pos, af, gd⟩ (.int .i64 (wr (0 - a))) := v_negk hx
theorem v_neg {x : Operand} {t : TypeId} {a : Int} (hx : ev f x = .int .i64 a) (h : -9223372036854775807 ≤ a ∧ a ≤ 9223372036854775807) : Val P f C ⟨dst, .unOp .neg t x, ty, pos, af, gd⟩ (.int .i64 (-a)) := by
  have := v_negk (P := P) (C := C) (dst := dst) (ty := ty) (pos := pos) (af := af) (gd := gd) (t := t) hx
  rwa [wrap_in (by omega) (by omega), Int.zero_sub] at this

/-! addresses -/
theorem add_off (b o k : Nat) : (⟨b, o, none⟩ : Addr).add k = ⟨b, o + k, none⟩ := by unfold Addr.add; split <;> simp_all
theorem v_field {x : Operand} {T k fo b o : Nat} (hF : fieldB P T k fo = true) (hx : ev f x = .pointer (some ⟨b, o, none⟩)) : Val P f C ⟨dst, .fieldAddr T x k, ty, pos, af, gd⟩ (.pointer (some ⟨b, o + fo, none⟩)) :=
  ⟨fun w _ => by
    unfold fieldB at hF
    split at hF
    · rename_i fs hu
      split at hF
      · rename_i fd hfd
        simp only [Bool.and_eq_true] at hF
        obtain ⟨h1, h2⟩ := hF
        have h1 := Nat.eq_of_beq_eq_true h1
        split at h2
        · rename_i i hi
          have hz : ¬ i.size = 0 := by intro e; rw [e] at h2; cases h2
          simp [execOp, hx, Instr.fieldAt, underlying, hu, hfd, Instr.sureAddr, fieldPlace, sizeOf, typeInfo, hi, hz, add_off, h1]
        · cases h2
      · cases hF
    · cases hF⟩
theorem v_idxA {x y : Operand} {T len size b o : Nat} {k : IntKind} {i : Int} (hT : arrB P T len size = true) (hx : ev f x = .pointer (some ⟨b, o, none⟩)) (hy : ev f y = .int k i) (hi : 0 ≤ i ∧ i < len) :
    Val P f C ⟨dst, .indexAddr T x y, ty, pos, af, gd⟩ (.pointer (some ⟨b, o + i.toNat * size, none⟩)) :=
  ⟨fun w _ => by
    unfold arrB at hT
    split at hT
    · rename_i l e hu
      simp only [Bool.and_eq_true] at hT
      obtain ⟨h1, h2⟩ := hT
      have h1 := Nat.eq_of_beq_eq_true h1
      subst h1
      have hz := sizeB_run (w := w) h2
      simp [execOp, hx, hy, Instr.indexAt, asIntOf, underlying, hu, Instr.sureAddr, hi, hz, add_off]
    · cases hT⟩
theorem v_idxS {x y : Operand} {T size b o len cap : Nat} {k : IntKind} {i : Int} (hT : slB P T size = true) (hx : ev f x = .slice (some ⟨b, o, none⟩) len cap) (hy : ev f y = .int k i) (hi : 0 ≤ i ∧ i < len) :
    Val P f C ⟨dst, .indexAddr T x y, ty, pos, af, gd⟩ (.pointer (some ⟨b, o + i.toNat * size, none⟩)) :=
  ⟨fun w _ => by
    unfold slB at hT
    split at hT
    · rename_i e hu
      have hz := sizeB_run (w := w) hT
      simp [execOp, hx, hy, Instr.indexAt, asIntOf, underlying, hu, hi, hz, add_off]
    · cases hT⟩

/-! values out of values -/
theorem v_fieldS {x : Operand} {T k t fo : Nat} {cs : Array Value} {v : Value} (hF : partB P T k t fo = true) (ht : scalarB P t = true) (hx : ev f x = .agg cs) (hv : cs[fo]? = some v) : Val P f C ⟨dst, .field T x k, ty, pos, af, gd⟩ v :=
  ⟨fun w _ => by
    unfold partB at hF
    split at hF
    · rename_i fs hu
      split at hF
      · rename_i fd hfd
        simp only [Bool.and_eq_true] at hF
        obtain ⟨h1, h2⟩ := hF
        have h1 := Nat.eq_of_beq_eq_true h1
        have h2 := Nat.eq_of_beq_eq_true h2
        subst h1 h2
        have := scalarB_run (w := w) ht
        simp [execOp, hx, Instr.field, underlying, hu, hfd, asAgg, part, this, hv]
      · cases hF
    · cases hF⟩
theorem v_fieldV {x : Operand} {T k t fo m : Nat} {cs : Array Value} (hF : partB P T k t fo = true) (ht : aggB P t m = true) (hx : ev f x = .agg cs) : Val P f C ⟨dst, .field T x k, ty, pos, af, gd⟩ (.agg (cs.extract fo (fo + m))) :=
  ⟨fun w _ => by
    unfold partB at hF
    split at hF
    · rename_i fs hu
      split at hF
      · rename_i fd hfd
        simp only [Bool.and_eq_true] at hF
        obtain ⟨h1, h2⟩ := hF
        have h1 := Nat.eq_of_beq_eq_true h1
        have h2 := Nat.eq_of_beq_eq_true h2
        subst h1 h2
        have := aggB_run (w := w) ht
        have h3 := sizeB_run (w := w) (aggB_size ht)
        simp [execOp, hx, Instr.field, underlying, hu, hfd, asAgg, part, this, h3]
      · cases hF
    · cases hF⟩
theorem v_indexV {x y : Operand} {T len t m : Nat} {cs cs' : Array Value} {k : IntKind} {i : Int} (hT : elemB P T len t m = true) (ht : aggB P t m = true) (hx : ev f x = .agg cs) (hy : ev f y = .int k i) (hi : 0 ≤ i ∧ i < len) (hv : cs.extract (i.toNat * m) (i.toNat * m + m) = cs') :
    Val P f C ⟨dst, .index T x y, ty, pos, af, gd⟩ (.agg cs') :=
  ⟨fun w _ => by
    unfold elemB at hT
    split at hT
    · rename_i l e hu
      simp only [Bool.and_eq_true] at hT
      obtain ⟨⟨h1, h2⟩, h3⟩ := hT
      have h1 := Nat.eq_of_beq_eq_true h1
      have h2 := Nat.eq_of_beq_eq_true h2
      subst h1 h2
      have h4 := aggB_run (w := w) ht
      have h5 := sizeB_run (w := w) h3
      simp [execOp, hx, hy, Instr.index, asIntOf, underlying, hu, hi, part, h4, h5, hv]
    · cases hT⟩
theorem v_indexS {x y : Operand} {T len t m : Nat} {cs : Array Value} {k : IntKind} {i : Int} {v : Value} (hT : elemB P T len t m = true) (ht : scalarB P t = true) (hx : ev f x = .agg cs) (hy : ev f y = .int k i) (hi : 0 ≤ i ∧ i < len) (hv : cs[i.toNat * m]? = some v) :
    Val P f C ⟨dst, .index T x y, ty, pos, af, gd⟩ v :=
  ⟨fun w _ => by
    unfold elemB at hT
    split at hT
    · rename_i l e hu
      simp only [Bool.and_eq_true] at hT
      obtain ⟨⟨h1, h2⟩, h3⟩ := hT
      have h1 := Nat.eq_of_beq_eq_true h1
      have h2 := Nat.eq_of_beq_eq_true h2
      subst h1 h2
      have h4 := scalarB_run (w := w) ht
      have h5 := sizeB_run (w := w) h3
      simp [execOp, hx, hy, Instr.index, asIntOf, underlying, hu, hi, part, h4, h5, hv]
    · cases hT⟩

theorem v_lenS {x : Operand} {T m : Nat} {ats : Array TypeId} {a : Option Addr} {len cap : Nat} (hT : slB P T m = true) (ha : ats = #[T]) (hx : ev f x = .slice a len cap) :
    Val P f C ⟨dst, .call ⟨.builtin .len, #[x], ats⟩, ty, pos, af, gd⟩ (.int .i64 len) :=
  ⟨fun w _ => by
    unfold slB at hT
    split at hT
    · rename_i e hu
      simp [execOp, resolve, invoke, builtin, hx, ha, Builtin.len_, underlying, hu, goInt]
    · cases hT⟩

/-! loads -/
theorem cell_has {w0 w : World} {F : Addr → Value → Prop} {L : List (Nat × Obj)} {b o : Nat} {cs : Array Value} {t : TypeId} {fr : Nat × Nat} (h : Has w0 F L w) (hl : Look L b (.cells cs t fr)) : w.cell? ⟨b, o, none⟩ = cs[o]? :=
  cell_of_row w b o cs t fr (h.look hl)
theorem cell_old {w0 w : World} {F : Addr → Value → Prop} {L : List (Nat × Obj)} {b o : Nat} {v : Value} (h : Has w0 F L w) (hv : F ⟨b, o, none⟩ v) : w.cell? ⟨b, o, none⟩ = some v := (h.2.2.2 _ _ hv).1
theorem run_load1 {w : World} {T : TypeId} {b o : Nat} {v : Value} (hT : scalarB P T = true) (hc : w.cell? ⟨b, o, none⟩ = some v) : (Instr.loadAt T (.pointer (some ⟨b, o, none⟩))).run P w = .ok v w := by
  have := scalarB_run (w := w) hT
  simp only [Instr.loadAt, Instr.sureAddr, loadVar, Sem.run_bind, Sem.run_pure, Result.andThen, this, load, Bool.false_eq_true, if_false, Sem.run, hc]
theorem run_loadN {w : World} {T b o : Nat} {cs : List Value} (hT : aggB P T cs.length = true) (hc : ∀ j v, cs[j]? = some v → w.cell? ⟨b, o + j, none⟩ = some v) : (Instr.loadAt T (.pointer (some ⟨b, o, none⟩))).run P w = .ok (.agg cs.toArray) w := by
  have h1 := aggB_run (w := w) hT
  have h2 := sizeB_run (w := w) (aggB_size hT)
  have h3 := run_loadCells_list (P := P) w ⟨b, o, none⟩ cs (fun j v hv => by rw [add_off]; exact hc j v hv)
  simp [Instr.loadAt, Instr.sureAddr, loadVar, h1, h2, h3]
theorem v_load1 {x : Operand} {T b o t : Nat} {fr : Nat × Nat} {cs : Array Value} {v : Value} (hT : scalarB P T = true) (hx : ev f x = .pointer (some ⟨b, o, none⟩)) (hl : Look L b (.cells cs t fr)) (hv : cs[o]? = some v) :
    Val P f (Has w0 F L) ⟨dst, .load T x, ty, pos, af, gd⟩ v :=
  ⟨fun w hw => by simp [execOp, hx, run_load1 hT ((cell_has hw hl).trans hv)]⟩
theorem v_load1o {x : Operand} {T b o : Nat} {v : Value} (hT : scalarB P T = true) (hx : ev f x = .pointer (some ⟨b, o, none⟩)) (hv : F ⟨b, o, none⟩ v) :
    Val P f (Has w0 F L) ⟨dst, .load T x, ty, pos, af, gd⟩ v :=
  ⟨fun w hw => by simp [execOp, hx, run_load1 hT (cell_old hw hv)]⟩
theorem v_loadN {x : Operand} {T b o t m : Nat} {fr : Nat × Nat} {cs cs' : Array Value} (hT : aggB P T m = true) (hx : ev f x = .pointer (some ⟨b, o, none⟩)) (hl : Look L b (.cells cs t fr)) (hm : cs'.size = m) (hv : cs.extract o (o + m) = cs') :
    Val P f (Has w0 F L) ⟨dst, .load T x, ty, pos, af, gd⟩ (.agg cs') :=
  ⟨fun w hw => by
    subst hm
    have := run_loadN (P := P) (w := w) (b := b) (o := o) (cs := cs'.toList) (by simpa using hT) (fun j v hj => by
      rw [cell_has hw hl]
      have hj' : cs'[j]? = some v := by simpa using hj
      rw [← hv, Array.getElem?_extract] at hj'
      split at hj'
      · exact hj'
      · cases hj')
    simp at this
    simp [execOp, hx, this]⟩
theorem v_loadA {x : Operand} {T b t m : Nat} {fr : Nat × Nat} {cs : Array Value} (hT : aggB P T m = true) (hx : ev f x = .pointer (some ⟨b, 0, none⟩)) (hl : Look L b (.cells cs t fr)) (hm : cs.size = m) :
    Val P f (Has w0 F L) ⟨dst, .load T x, ty, pos, af, gd⟩ (.agg cs) :=
  v_loadN hT hx hl hm (by subst hm; simp)
theorem v_loadNo {x : Operand} {T b o m : Nat} {cs : Array Value} (hT : aggB P T m = true) (hx : ev f x = .pointer (some ⟨b, o, none⟩)) (hm : cs.size = m) (hv : ∀ j v, cs[j]? = some v → F ⟨b, o + j, none⟩ v) :
    Val P f (Has w0 F L) ⟨dst, .load T x, ty, pos, af, gd⟩ (.agg cs) :=
  ⟨fun w hw => by
    subst hm
    have := run_loadN (P := P) (w := w) (b := b) (o := o) (cs := cs.toList) (by simpa using hT) (fun j v hj => cell_old hw (hv j v (by simpa using hj)))
    simp at this
    simp [execOp, hx, this]⟩
end

/-! calls -/
section
variable {P : Program} {ops : Array Oper} {K : (Nat → Value) → World → Prop} {KQ : (Nat → Value) → Prop} {rest : List Oper} {f : Nat → Value} {C : World → Prop}
  {d : Nat} {ty : TypeId} {pos : String} {af : Array Edge} {w0 : World} {F : Addr → Value → Prop} {L : List (Nat × Obj)}

def hasBody (P : Program) (k : FuncId) : Bool := match P.funcs[k]? with
  | some fn => fn.body.isSome && !(fn.name == "runtime.NumGoroutine")
  | none => false
theorem run_call {k : FuncId} {xs : List Operand} {ats : Array TypeId} {dst : Option Nat} {gd : Option (Nat × Bool)} (hk : hasBody P k = true) (w : World) :
    (execOp (ev f) ⟨dst, .call ⟨.value (.func k), xs.toArray, ats⟩, ty, pos, af, gd⟩).run P w = .ok (.enter k (xs.map (ev f)).toArray) w := by
  unfold hasBody at hk
  split at hk
  · rename_i fn hf
    simp only [Bool.and_eq_true, Bool.not_eq_true'] at hk
    obtain ⟨h1, h2⟩ := hk
    have h3 : ¬ fn.body = none := by intro e; rw [e] at h1; cases h1
    have h4 : ¬ fn.name = "runtime.NumGoroutine" := by intro e; rw [e] at h2; simp at h2
    simp [execOp, resolve, ev, Deferred.ofValue, invoke, callFunc, hf, h3, h4]
  · cases hk
theorem s_call {k : FuncId} {xs : List Operand} {ats : Array TypeId} {v : Value} (hk : hasBody P k = true) (hg : ∀ w, Has w0 F L w → Gives P k (xs.map (ev f)) w v) (kk : sC P ops K rest (upd f d v) (Has w0 F L)) :
    sC P ops K (⟨some d, .call ⟨.value (.func k), xs.toArray, ats⟩, ty, pos, af, none⟩ :: rest) f (Has w0 F L) := by
  intro w hw
  unfold sw
  rw [if_pos wanted_free]
  unfold opk
  rw [run_call hk w]
  refine (hg w hw).out.mono fun e w' ⟨he, hb⟩ => ⟨v, he, kk w' (hw.below hb)⟩
theorem q_call {k : FuncId} {xs : List Operand} {ats : Array TypeId} {v : Value} (hk : hasBody P k = true) (hg : ∀ w, Has w0 F L w → Gives P k (xs.map (ev f)) w v) (kk : qw P ops (Has w0 F L) KQ rest (upd f d v)) :
    qw P ops (Has w0 F L) KQ (⟨some d, .call ⟨.value (.func k), xs.toArray, ats⟩, ty, pos, af, none⟩ :: rest) f := by
  unfold qw
  rw [if_pos wanted_free]
  refine ⟨v, fun w hw => ?_, kk⟩
  rw [run_call hk w]
  exact ⟨rfl, (hg w hw).out.mono fun e w' ⟨he, hb⟩ => ⟨he, hw.below hb⟩⟩

/-! memory that the call itself makes -/
theorem s_box {T : TypeId} {x : Operand} {v : Value} (hx : ev f x = v) (kk : ∀ b, sC P ops K rest (upd f d (.pointer (some ⟨b, 0, none⟩))) (Has w0 F ((b, .cells v.cells T) :: L))) :
    sC P ops K (⟨some d, .box T x, ty, pos, af, none⟩ :: rest) f (Has w0 F L) := by
  intro w hw
  unfold sw
  rw [if_pos wanted_free]
  unfold opk
  have : (execOp (ev f) ⟨some d, .box T x, ty, pos, af, none⟩).run P w = .ok (.value (.pointer (some ⟨w.heap.size, 0, none⟩))) (w.alloc (.cells v.cells T)) := by
    simp [execOp, hx, Instr.box, newVar, newRow, newObj, Sem.run]
  rw [this]
  exact kk _ _ (hw.alloc _)
def zeroOf (P : Program) (T : TypeId) : Value := ((P.info? T).bind (·.zero)).getD undef
/-- a row of cells in place of the one that lay there -/
theorem has_setRow {w : World} {b : Nat} {cs cs' : Array Value} {t : TypeId} {L' : List (Nat × Obj)} (hw : Has w0 F L w) (ht : Turn L b (.cells cs t (0, 0)) (.cells cs' t (0, 0)) L') : Has w0 F L' (w.setRow b cs') := by
  have hl := hw.look ht.look
  have hlt := (Array.getElem?_eq_some_iff.1 hl).1
  refine hw.turn ht rfl rfl rfl (by simp [World.setRow]) ?_ ?_
  · simp only [World.setRow, Array.getElem?_modify, if_true, hl]; rfl
  · intro k hk
    have hk' : ¬ b = k := fun e => hk e.symm
    simp only [World.setRow, Array.getElem?_modify, if_neg hk']
theorem setCell_row {w : World} {b o : Nat} {cs : Array Value} {t : TypeId} {v : Value} (hl : w.heap[b]? = some (.cells cs t (0, 0))) : w.setCell ⟨b, o, none⟩ v = w.setRow b (cs.setIfInBounds o v) := by
  have hlt := (Array.getElem?_eq_some_iff.1 hl).1
  have he := (Array.getElem?_eq_some_iff.1 hl).2
  simp only [World.setCell, World.setRow]
  congr 1
  apply Array.ext_getElem?
  intro i
  rw [Array.getElem?_modify, Array.getElem?_modify]
  by_cases hi : b = i
  · subst hi; simp [hl]
  · simp [hi]
theorem s_store1 {T : TypeId} {x y : Operand} {b o t : Nat} {cs cs' : Array Value} {v : Value} {L' : List (Nat × Obj)} (hT : sizeB P T 1 = true) (hx : ev f x = .pointer (some ⟨b, o, none⟩)) (hy : ev f y = v)
    (ht : Turn L b (.cells cs t (0, 0)) (.cells cs' t (0, 0)) L') (hs : o < cs.size ∧ cs.setIfInBounds o v = cs') (h1 : v.oneCell' = true) (kk : sC P ops K rest f (Has w0 F L')) :
    sC P ops K (⟨none, .store T x y, ty, pos, af, none⟩ :: rest) f (Has w0 F L) := by
  intro w hw
  unfold sw
  rw [if_pos wanted_free]
  unfold opk
  have hl := hw.look ht.look
  have hc : v.cells = #[v] := by cases v <;> first | rfl | (simp [Value.oneCell'] at h1)
  have hcell : w.cell? ⟨b, o, none⟩ = some (cs[o]'hs.1) := by rw [cell_of_row w b o cs t (0, 0) hl]; simp [hs.1]
  have hfr : w.frozen? ⟨b, o, none⟩ = false := by simp [World.frozen?, hl]
  have hst : (store (⟨b, o, none⟩ : Addr) v).run P w = .ok () (w.setCell ⟨b, o, none⟩ v) := by
    unfold store
    cases v <;> first
      | (simp [Value.oneCell'] at h1; done)
      | simp [Sem.run, hcell, hfr]
  have : (execOp (ev f) ⟨none, .store T x y, ty, pos, af, none⟩).run P w = .ok .skip (w.setCell ⟨b, o, none⟩ v) := by
    simp [execOp, hx, hy, Instr.storeAt, Instr.sureAddr, storeVar, hc, sizeB_run hT, storeCells, add_off, hst]
  rw [this]
  simp only [updo]
  rw [setCell_row hl, hs.2]
  exact kk _ (has_setRow hw ht)
theorem s_storeA {T : TypeId} {x y : Operand} {b t m : Nat} {cs cs' : Array Value} {L' : List (Nat × Obj)} (hT : sizeB P T m = true) (hx : ev f x = .pointer (some ⟨b, 0, none⟩)) (hy : ev f y = .agg cs')
    (ht : Turn L b (.cells cs t (0, 0)) (.cells cs' t (0, 0)) L') (hs : cs.size = m) (hs' : cs'.size = m) (h1 : cs'.all (·.oneCell') = true) (kk : sC P ops K rest f (Has w0 F L')) :
    sC P ops K (⟨none, .store T x y, ty, pos, af, none⟩ :: rest) f (Has w0 F L) := by
  intro w hw
  unfold sw
  rw [if_pos wanted_free]
  unfold opk
  have hl := hw.look ht.look
  have hst := run_storeVar_row (P := P) w b t T cs cs' hl (by rw [hs']; exact sizeB_info hT) (by rw [hs, hs']) h1
  have : (execOp (ev f) ⟨none, .store T x y, ty, pos, af, none⟩).run P w = .ok .skip (w.setRow b cs') := by
    simp [execOp, hx, hy, Instr.storeAt, Instr.sureAddr, hst]
  rw [this]
  exact kk _ (has_setRow hw ht)
theorem s_alloc {T : TypeId} {z : Value} (hz : (P.info? T).map (·.zero) = some (some z)) (kk : ∀ b, sC P ops K rest (upd f d (.pointer (some ⟨b, 0, none⟩))) (Has w0 F ((b, .cells z.cells T) :: L))) :
    sC P ops K (⟨some d, .alloc T, ty, pos, af, none⟩ :: rest) f (Has w0 F L) := by
  intro w hw
  unfold sw
  rw [if_pos wanted_free]
  unfold opk
  have hzr : ∀ w, (zeroValue T).run P w = .ok z w := by
    intro w
    cases hi : P.info? T with
    | none => simp [hi] at hz
    | some i => simp [hi] at hz; simp [zeroValue, typeInfo, hi, hz]
  have : (execOp (ev f) ⟨some d, .alloc T, ty, pos, af, none⟩).run P w = .ok (.value (.pointer (some ⟨w.heap.size, 0, none⟩))) (w.alloc (.cells z.cells T)) := by
    simp [execOp, Instr.alloc, hzr, newVar, newRow, newObj, Sem.run]
  rw [this]
  exact kk _ _ (hw.alloc _)
end

/-! frames of which some slots are known -/
theorem live0 {f : Nat → Value} : f = f := rfl
theorem live1 {f : Nat → Value} {s0 : Nat} {v0 : Value} (h0 : f s0 = v0) : f = upd f s0 v0 := by
  rw [upd_self h0]
theorem live2 {f : Nat → Value} {s0 s1 : Nat} {v0 v1 : Value} (h0 : f s0 = v0) (h1 : f s1 = v1) : f = upd (upd f s0 v0) s1 v1 := by
  rw [upd_self h0, upd_self h1]
theorem live3 {f : Nat → Value} {s0 s1 s2 : Nat} {v0 v1 v2 : Value} (h0 : f s0 = v0) (h1 : f s1 = v1) (h2 : f s2 = v2) : f = upd (upd (upd f s0 v0) s1 v1) s2 v2 := by
  rw [upd_self h0, upd_self h1, upd_self h2]
theorem live4 {f : Nat → Value} {s0 s1 s2 s3 : Nat} {v0 v1 v2 v3 : Value} (h0 : f s0 = v0) (h1 : f s1 = v1) (h2 : f s2 = v2) (h3 : f s3 = v3) : f = upd (upd (upd (upd f s0 v0) s1 v1) s2 v2) s3 v3 := by
  rw [upd_self h0, upd_self h1, upd_self h2, upd_self h3]
theorem live5 {f : Nat → Value} {s0 s1 s2 s3 s4 : Nat} {v0 v1 v2 v3 v4 : Value} (h0 : f s0 = v0) (h1 : f s1 = v1) (h2 : f s2 = v2) (h3 : f s3 = v3) (h4 : f s4 = v4) : f = upd (upd (upd (upd (upd f s0 v0) s1 v1) s2 v2) s3 v3) s4 v4 := by
  rw [upd_self h0, upd_self h1, upd_self h2, upd_self h3, upd_self h4]
theorem live6 {f : Nat → Value} {s0 s1 s2 s3 s4 s5 : Nat} {v0 v1 v2 v3 v4 v5 : Value} (h0 : f s0 = v0) (h1 : f s1 = v1) (h2 : f s2 = v2) (h3 : f s3 = v3) (h4 : f s4 = v4) (h5 : f s5 = v5) : f = upd (upd (upd (upd (upd (upd f s0 v0) s1 v1) s2 v2) s3 v3) s4 v4) s5 v5 := by
  rw [upd_self h0, upd_self h1, upd_self h2, upd_self h3, upd_self h4, upd_self h5]
theorem live7 {f : Nat → Value} {s0 s1 s2 s3 s4 s5 s6 : Nat} {v0 v1 v2 v3 v4 v5 v6 : Value} (h0 : f s0 = v0) (h1 : f s1 = v1) (h2 : f s2 = v2) (h3 : f s3 = v3) (h4 : f s4 = v4) (h5 : f s5 = v5) (h6 : f s6 = v6) : f = upd (upd (upd (upd (upd (upd (upd f s0 v0) s1 v1) s2 v2) s3 v3) s4 v4) s5 v5) s6 v6 := by
  rw [upd_self h0, upd_self h1, upd_self h2, upd_self h3, upd_self h4, upd_self h5, upd_self h6]
theorem live8 {f : Nat → Value} {s0 s1 s2 s3 s4 s5 s6 s7 : Nat} {v0 v1 v2 v3 v4 v5 v6 v7 : Value} (h0 : f s0 = v0) (h1 : f s1 = v1) (h2 : f s2 = v2) (h3 : f s3 = v3) (h4 : f s4 = v4) (h5 : f s5 = v5) (h6 : f s6 = v6) (h7 : f s7 = v7) : f = upd (upd (upd (upd (upd (upd (upd (upd f s0 v0) s1 v1) s2 v2) s3 v3) s4 v4) s5 v5) s6 v6) s7 v7 := by
  rw [upd_self h0, upd_self h1, upd_self h2, upd_self h3, upd_self h4, upd_self h5, upd_self h6, upd_self h7]
theorem live9 {f : Nat → Value} {s0 s1 s2 s3 s4 s5 s6 s7 s8 : Nat} {v0 v1 v2 v3 v4 v5 v6 v7 v8 : Value} (h0 : f s0 = v0) (h1 : f s1 = v1) (h2 : f s2 = v2) (h3 : f s3 = v3) (h4 : f s4 = v4) (h5 : f s5 = v5) (h6 : f s6 = v6) (h7 : f s7 = v7) (h8 : f s8 = v8) : f = upd (upd (upd (upd (upd (upd (upd (upd (upd f s0 v0) s1 v1) s2 v2) s3 v3) s4 v4) s5 v5) s6 v6) s7 v7) s8 v8 := by
  rw [upd_self h0, upd_self h1, upd_self h2, upd_self h3, upd_self h4, upd_self h5, upd_self h6, upd_self h7, upd_self h8]
theorem live10 {f : Nat → Value} {s0 s1 s2 s3 s4 s5 s6 s7 s8 s9 : Nat} {v0 v1 v2 v3 v4 v5 v6 v7 v8 v9 : Value} (h0 : f s0 = v0) (h1 : f s1 = v1) (h2 : f s2 = v2) (h3 : f s3 = v3) (h4 : f s4 = v4) (h5 : f s5 = v5) (h6 : f s6 = v6) (h7 : f s7 = v7) (h8 : f s8 = v8) (h9 : f s9 = v9) : f = upd (upd (upd (upd (upd (upd (upd (upd (upd (upd f s0 v0) s1 v1) s2 v2) s3 v3) s4 v4) s5 v5) s6 v6) s7 v7) s8 v8) s9 v9 := by
  rw [upd_self h0, upd_self h1, upd_self h2, upd_self h3, upd_self h4, upd_self h5, upd_self h6, upd_self h7, upd_self h8, upd_self h9]
theorem live11 {f : Nat → Value} {s0 s1 s2 s3 s4 s5 s6 s7 s8 s9 s10 : Nat} {v0 v1 v2 v3 v4 v5 v6 v7 v8 v9 v10 : Value} (h0 : f s0 = v0) (h1 : f s1 = v1) (h2 : f s2 = v2) (h3 : f s3 = v3) (h4 : f s4 = v4) (h5 : f s5 = v5) (h6 : f s6 = v6) (h7 : f s7 = v7) (h8 : f s8 = v8) (h9 : f s9 = v9) (h10 : f s10 = v10) : f = upd (upd (upd (upd (upd (upd (upd (upd (upd (upd (upd f s0 v0) s1 v1) s2 v2) s3 v3) s4 v4) s5 v5) s6 v6) s7 v7) s8 v8) s9 v9) s10 v10 := by
  rw [upd_self h0, upd_self h1, upd_self h2, upd_self h3, upd_self h4, upd_self h5, upd_self h6, upd_self h7, upd_self h8, upd_self h9, upd_self h10]
theorem live12 {f : Nat → Value} {s0 s1 s2 s3 s4 s5 s6 s7 s8 s9 s10 s11 : Nat} {v0 v1 v2 v3 v4 v5 v6 v7 v8 v9 v10 v11 : Value} (h0 : f s0 = v0) (h1 : f s1 = v1) (h2 : f s2 = v2) (h3 : f s3 = v3) (h4 : f s4 = v4) (h5 : f s5 = v5) (h6 : f s6 = v6) (h7 : f s7 = v7) (h8 : f s8 = v8) (h9 : f s9 = v9) (h10 : f s10 = v10) (h11 : f s11 = v11) : f = upd (upd (upd (upd (upd (upd (upd (upd (upd (upd (upd (upd f s0 v0) s1 v1) s2 v2) s3 v3) s4 v4) s5 v5) s6 v6) s7 v7) s8 v8) s9 v9) s10 v10) s11 v11 := by
  rw [upd_self h0, upd_self h1, upd_self h2, upd_self h3, upd_self h4, upd_self h5, upd_self h6, upd_self h7, upd_self h8, upd_self h9, upd_self h10, upd_self h11]
end Go.Proofs.Ytmkboljfbmlebaa
