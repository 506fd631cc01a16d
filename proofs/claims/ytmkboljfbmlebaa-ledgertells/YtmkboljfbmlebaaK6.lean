/- Go's own comparison of structs and arrays of numbers. No condition. -/
import Derived.Test.YtmkboljfbmlebaaK5
import Derived.Laws.StructEq
import Derived.ChangeKeysEq
namespace Go.Proofs.Ytmkboljfbmlebaa
open Go.RowKit
set_option linter.unusedSimpArgs false
set_option linter.unusedVariables false

def flatFs (P : Program) (F : TypeId → Nat → Bool) : List Field → Nat → Nat → Bool
  | [], off, n => Nat.beq off n
  | f :: fs, off, n => !(f.name == "_") && Nat.beq f.offset off && (match P.info? f.type with
    | some i => F f.type i.size && flatFs P F fs (off + i.size) n
    | none => false)
/-- a type all of whose n cells are numbers of Go's type int -/
def flatB (P : Program) : Nat → TypeId → Nat → Bool
  | 0, _, _ => false
  | d + 1, T, n => sizeB P T n && (match P.underlying T with
    | some (.int .i64) => Nat.beq n 1
    | some (.array len e) => (match P.info? e with | some i => flatB P d e i.size && Nat.beq n (len * i.size) | none => false)
    | some (.struct fs) => !P.stoodInHeld T && flatFs P (flatB P d) fs.toList 0 n
    | _ => false)
def vOf (P : Program) (T : TypeId) (xs : List Int) : Value := match P.underlying T with
  | some (.int _) => I (xs.headD 0)
  | _ => .agg (xs.map I).toArray

section
variable {P : Program}
theorem flat_part {d : Nat} {T : TypeId} {m : Nat} (h : flatB P (d + 1) T m = true) (xs : List Int) (off : Nat) (ho : off + m ≤ xs.length) (w : World) :
    (part T (xs.map I).toArray off).run P w = .ok (vOf P T ((xs.drop off).take m)) w := by
  unfold flatB at h
  simp only [Bool.and_eq_true] at h
  obtain ⟨hs, h⟩ := h
  have hsz := sizeB_run (w := w) hs
  unfold vOf
  split at h
  · rename_i hu
    have : m = 1 := Nat.eq_of_beq_eq_true h
    subst this
    have hlt : off < xs.length := by omega
    have e1 : (xs.map I)[off]? = some (I xs[off]) := by simp [hlt]
    have e2 : ((xs.drop off).take 1).head?.getD 0 = xs[off] := by rw [List.drop_eq_getElem_cons hlt]; rfl
    simp [part, isAgg, underlying, hu, e1, e2, hlt]
  · rename_i len e hu
    have e1 : (xs.map I).toArray.extract off (off + m) = (((xs.drop off).take m).map I).toArray := by
      simp [List.extract_eq_take_drop, List.map_take, List.map_drop]
    simp [part, isAgg, underlying, hu, hsz, e1]
  · rename_i fs hu
    have e1 : (xs.map I).toArray.extract off (off + m) = (((xs.drop off).take m).map I).toArray := by
      simp [List.extract_eq_take_drop, List.map_take, List.map_drop]
    simp [part, isAgg, underlying, hu, hsz, e1]
  · cases h
theorem split_eq (m : Nat) (a b : List Int) : (decide (a.take m = b.take m) && decide (a.drop m = b.drop m)) = decide (a = b) := by
  rw [Bool.eq_iff_iff]
  simp only [Bool.and_eq_true, decide_eq_true_eq]
  constructor
  · rintro ⟨h1, h2⟩
    rw [← List.take_append_drop m a, ← List.take_append_drop m b, h1, h2]
  · rintro rfl; exact ⟨rfl, rfl⟩

theorem eq_flat : ∀ (d : Nat) (T : TypeId) (n : Nat), flatB P d T n = true → ∀ (xs ys : List Int), xs.length = n → ys.length = n → ∀ (w : World) (D : Nat),
    (Op.equalIn (D + d) T (vOf P T xs) (vOf P T ys)).run P w = .ok (decide (xs = ys)) w
  | 0, T, n, h, _, _, _, _, _, _ => by cases h
  | d + 1, T, n, h, xs, ys, hx, hy, w, D => by
    have h0 := h
    unfold flatB at h
    simp only [Bool.and_eq_true] at h
    obtain ⟨hs, h⟩ := h
    split at h
    · rename_i hu
      have : n = 1 := Nat.eq_of_beq_eq_true h
      subst this
      obtain ⟨x, rfl⟩ : ∃ x, xs = [x] := by
        match xs, hx with
        | [x], _ => exact ⟨x, rfl⟩
      obtain ⟨y, rfl⟩ : ∃ y, ys = [y] := by
        match ys, hy with
        | [y], _ => exact ⟨y, rfl⟩
      have e : ∀ z : Int, vOf P T [z] = I z := by intro z; unfold vOf; rw [hu]; rfl
      rw [e, e, show D + (d + 1) = (D + d) + 1 by omega, run_equalIn_int w (D + d) T .i64 .i64 x y hu]
      congr 1
      rw [Bool.eq_iff_iff]; simp
    · rename_i len e hu
      split at h
      · rename_i i hi
        simp only [Bool.and_eq_true] at h
        obtain ⟨hf, hn⟩ := h
        have hn := Nat.eq_of_beq_eq_true hn
        have ev1 : ∀ zs, vOf P T zs = .agg (zs.map I).toArray := by intro zs; unfold vOf; rw [hu]
        have hce : P.cellsOf e = i.size := by simp [Program.cellsOf, hi]
        rw [ev1, ev1, show D + (d + 1) = (D + d) + 1 by omega, run_equalIn_array w (D + d) _ _ hu hi, hce]
        have key : ∀ (r k : Nat), k + r = len → (Op.eqItems (D + d) e i.size (xs.map I).toArray (ys.map I).toArray (List.range' k r)).run P w = .ok (decide (xs.drop (k * i.size) = ys.drop (k * i.size))) w := by
          intro r
          induction r with
          | zero =>
            intro k hk
            have e1 : xs.drop (k * i.size) = [] := List.drop_eq_nil_of_le (by rw [hx, hn, ← hk, Nat.add_zero]; exact Nat.le_refl _)
            have e2 : ys.drop (k * i.size) = [] := List.drop_eq_nil_of_le (by rw [hy, hn, ← hk, Nat.add_zero]; exact Nat.le_refl _)
            simp [Op.eqItems, e1, e2]
          | succ r ih =>
            intro k hk
            have hle : k * i.size + i.size ≤ n := by
              rw [hn, ← Nat.succ_mul]; exact Nat.mul_le_mul_right _ (by omega)
            cases d with
            | zero => cases hf
            | succ d' =>
            have p1 := flat_part hf xs (k * i.size) (by rw [hx]; exact hle) w
            have p2 := flat_part hf ys (k * i.size) (by rw [hy]; exact hle) w
            have q := eq_flat (d' + 1) e i.size hf ((xs.drop (k * i.size)).take i.size) ((ys.drop (k * i.size)).take i.size) (by simp; omega) (by simp; omega) w D
            have ih' := ih (k + 1) (by omega)
            rw [List.range'_succ]
            simp only [Op.eqItems, Sem.run_bind, p1, p2, q, Result.andThen_ok]
            rw [← split_eq i.size (xs.drop (k * i.size)), List.drop_drop, List.drop_drop]
            rw [Nat.succ_mul] at ih'
            by_cases hh : (xs.drop (k * i.size)).take i.size = (ys.drop (k * i.size)).take i.size
            · simp only [hh, decide_true, Bool.not_true, Bool.false_eq_true, if_false, Bool.true_and]
              exact ih'
            · simp [hh]
        have := key len 0 (by omega)
        simpa [List.range_eq_range'] using this
      · cases h
    · rename_i fs hu
      simp only [Bool.and_eq_true, Bool.not_eq_true'] at h
      obtain ⟨hst, hfs⟩ := h
      have ev1 : ∀ zs, vOf P T zs = .agg (zs.map I).toArray := by intro zs; unfold vOf; rw [hu]
      have hfo : P.fieldsOf T = fs := by simp [Program.fieldsOf, hu]
      rw [ev1, ev1, show D + (d + 1) = (D + d) + 1 by omega, run_equalIn_struct w (D + d) T _ _ (by rw [hfo]; exact hu) hst, hfo]
      have key : ∀ (l : List Field) (off : Nat), flatFs P (flatB P d) l off n = true → (Op.eqFields (D + d) (xs.map I).toArray (ys.map I).toArray l).run P w = .ok (decide (xs.drop off = ys.drop off)) w := by
        intro l
        induction l with
        | nil =>
          intro off hl
          have : off = n := Nat.eq_of_beq_eq_true hl
          have e1 : xs.drop off = [] := List.drop_eq_nil_of_le (by omega)
          have e2 : ys.drop off = [] := List.drop_eq_nil_of_le (by omega)
          simp [Op.eqFields, e1, e2]
        | cons fd l ih =>
          intro off hl
          unfold flatFs at hl
          simp only [Bool.and_eq_true, Bool.not_eq_true'] at hl
          obtain ⟨⟨hnm, hoff⟩, hl⟩ := hl
          have hoff := Nat.eq_of_beq_eq_true hoff
          have hnm : fd.name ≠ "_" := by simpa using hnm
          split at hl
          · rename_i i hi
            simp only [Bool.and_eq_true] at hl
            obtain ⟨hf, hl⟩ := hl
            have hle : off + i.size ≤ n := by
              clear ih hf
              have : ∀ (l : List Field) (o : Nat), flatFs P (flatB P d) l o n = true → o ≤ n := by
                intro l
                induction l with
                | nil => intro o ho; have := Nat.eq_of_beq_eq_true ho; omega
                | cons g l ih2 =>
                  intro o ho
                  unfold flatFs at ho
                  simp only [Bool.and_eq_true] at ho
                  obtain ⟨_, ho⟩ := ho
                  split at ho
                  · simp only [Bool.and_eq_true] at ho
                    have := ih2 _ ho.2
                    omega
                  · cases ho
              exact this l _ hl
            cases d with
            | zero => cases hf
            | succ d' =>
            have p1 := flat_part hf xs off (by rw [hx]; exact hle) w
            have p2 := flat_part hf ys off (by rw [hy]; exact hle) w
            have q := eq_flat (d' + 1) fd.type i.size hf ((xs.drop off).take i.size) ((ys.drop off).take i.size) (by simp; omega) (by simp; omega) w D
            have ih' := ih (off + i.size) hl
            simp only [Op.eqFields, if_pos hnm, Sem.run_bind, hoff, p1, p2, q, Result.andThen_ok]
            rw [← split_eq i.size (xs.drop off), List.drop_drop, List.drop_drop]
            by_cases hh : (xs.drop off).take i.size = (ys.drop off).take i.size
            · simp only [hh, decide_true, Bool.not_true, Bool.false_eq_true, if_false, Bool.true_and]
              exact ih'
            · simp [hh]
          · cases hl
      have := key fs.toList 0 hfs
      simpa using this
    · cases h

variable {f : Nat → Value} {C : World → Prop} {dst : Option Nat} {ty : TypeId} {pos : String} {af : Array Edge} {gd : Option (Nat × Bool)}
def aggFlatB (P : Program) (T n : Nat) : Bool := flatB P 6 T n && !P.eqGuardType P.depth T && (match P.underlying T with | some (.int _) => false | _ => true)
theorem run_eqFlat {T n : Nat} (hT : aggFlatB P T n = true) (xs ys : List Int) (lx : xs.length = n) (ly : ys.length = n) (w : World) : (Op.equalIn 10000 T (.agg (xs.map I).toArray) (.agg (ys.map I).toArray)).run P w = .ok (decide (xs = ys)) w := by
  unfold aggFlatB at hT
  simp only [Bool.and_eq_true] at hT
  have e : ∀ zs, vOf P T zs = .agg (zs.map I).toArray := by
    intro zs; unfold vOf
    split
    · rename_i k hu; rw [hu] at hT; cases hT.2
    · rfl
  have := eq_flat 6 T n hT.1.1 xs ys lx ly w 9994
  rwa [e, e] at this
theorem v_eqFlat {x y : Operand} {T T' n : Nat} {cs cs' : Array Value} (xs ys : List Int) (hT : aggFlatB P T n = true) (hx : ev f x = .agg cs) (hy : ev f y = .agg cs') (ex : cs = (xs.map I).toArray) (ey : cs' = (ys.map I).toArray) (lx : xs.length = n) (ly : ys.length = n) :
    Val P f C ⟨dst, .binOp .eql T x y T', ty, pos, af, gd⟩ (.bool (decide (xs = ys))) :=
  ⟨fun w _ => by
    subst ex ey
    have hg := hT
    unfold aggFlatB at hg
    simp only [Bool.and_eq_true, Bool.not_eq_true'] at hg
    simp only [execOp, hx, hy, Sem.run_bind, run_eqGuard_agg w .eql T x y _ _ hg.1.2, Result.andThen_ok, run_eql_struct, run_eqFlat hT xs ys lx ly w, Sem.run_pure]⟩
theorem v_neqFlat {x y : Operand} {T T' n : Nat} {cs cs' : Array Value} (xs ys : List Int) (hT : aggFlatB P T n = true) (hx : ev f x = .agg cs) (hy : ev f y = .agg cs') (ex : cs = (xs.map I).toArray) (ey : cs' = (ys.map I).toArray) (lx : xs.length = n) (ly : ys.length = n) :
    Val P f C ⟨dst, .binOp .neq T x y T', ty, pos, af, gd⟩ (.bool (!decide (xs = ys))) :=
  ⟨fun w _ => by
    subst ex ey
    have hg := hT
    unfold aggFlatB at hg
    simp only [Bool.and_eq_true, Bool.not_eq_true'] at hg
    simp only [execOp, hx, hy, Sem.run_bind, run_eqGuard_agg w .neq T x y _ _ hg.1.2, Result.andThen_ok, run_neq_struct, run_eqFlat hT xs ys lx ly w, Sem.run_pure]⟩
end

/-! the shapes -/
def acc2L (a c : Int) : List Int := [a, c]
def accL (a c : Int → Int) : List Int := [a 0, c 0, a 1, c 1, a 2, c 2, a 3, c 3]
def rowL (r : Int → Int) : List Int := [r 0, r 1, r 2, r 3]
def matL (m : Int → Int → Int) : List Int := [m 0 0, m 0 1, m 0 2, m 0 3, m 1 0, m 1 1, m 1 2, m 1 3, m 2 0, m 2 1, m 2 2, m 2 3, m 3 0, m 3 1, m 3 2, m 3 3]
def PayS.list (p : PayS) : List Int := [p.src, p.dst, p.amt, p.cls, p.sta, p.seq]
theorem acc2_list (a c : Int) : acc2 a c = ((acc2L a c).map I).toArray := rfl
theorem accA_list (a c : Int → Int) : accA a c = ((accL a c).map I).toArray := rfl
theorem rowA_list (r : Int → Int) : rowA r = ((rowL r).map I).toArray := rfl
theorem matA_list (m : Int → Int → Int) : matA m = ((matL m).map I).toArray := rfl
theorem PayS.cells_list (p : PayS) : p.cells = (p.list.map I).toArray := rfl
end Go.Proofs.Ytmkboljfbmlebaa
