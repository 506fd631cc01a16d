/- What the laws of this place stand on, part 3. Each part names its own conditions in what it states. -/
import Derived.Test.YtmkboljfbmlebacQ2
import Derived.Laws.IdiomStrings
import Derived.Laws.Strings3
import Derived.Laws.Concat
import Derived.Laws.Entries
namespace Go.Proofs.Ytmkboljfbmlebac
set_option linter.unusedSimpArgs false
set_option linter.unusedVariables false
structure ActS where
  kind : Int
  a : Int
  b : Int
  c : Int
  n : Int
deriving DecidableEq
def zig (n : Int) : Nat := if n < 0 then (-2 * n - 1).toNat else (2 * n).toNat
def zag (u : Nat) : Int := if u % 2 = 1 then -((u / 2 : Nat) : Int) - 1 else ((u / 2 : Nat) : Int)
theorem zag_zig (n : Int) : zag (zig n) = n := by unfold zag zig; split <;> split <;> omega
def digs (u : Nat) : List Nat := if u < 128 then [u] else (128 + u % 128) :: digs (u / 128)
termination_by u
theorem digs_lo {u : Nat} (h : u < 128) : digs u = [u] := by rw [digs, if_pos h]
theorem digs_hi {u : Nat} (h : ¬ u < 128) : digs u = (128 + u % 128) :: digs (u / 128) := by rw [digs, if_neg h]
theorem digs_byte (u : Nat) : ∀ b ∈ digs u, b < 256 := by
 induction u using Nat.strongRecOn with
 | _ u ih =>
   by_cases h : u < 128
   · rw [digs_lo h]; intro b hb; simp at hb; omega
   · rw [digs_hi h]
     intro b hb
     rcases List.mem_cons.1 hb with rfl | hb
     · omega
     · exact ih (u / 128) (by omega) b hb
theorem digs_len (k : Nat) : ∀ u, u < 128 ^ (k + 1) → (digs u).length ≤ k + 1 := by
 induction k with
 | zero => intro u h; rw [digs_lo (by omega)]; simp
 | succ k ih =>
   intro u h
   by_cases hl : u < 128
   · rw [digs_lo hl]; simp
   · rw [digs_hi hl]
     have := ih (u / 128) (Nat.div_lt_of_lt_mul (by rw [Nat.pow_succ] at h; omega))
     simp only [List.length_cons]; omega
theorem digs_pos (u : Nat) : 1 ≤ (digs u).length := by
 by_cases h : u < 128
 · rw [digs_lo h]; simp
 · rw [digs_hi h]; simp
def undig : Nat → List Nat → Option (Nat × List Nat)
 | 0, _ => none
 | _ + 1, [] => none
 | f + 1, b :: r => if b < 128 then some (b, r) else (undig f r).map fun p => (b - 128 + 128 * p.1, p.2)
theorem undig_digs (f : Nat) : ∀ u r, u < 128 ^ (f + 1) → undig (f + 1) (digs u ++ r) = some (u, r) := by
 induction f with
 | zero => intro u r h; have hl : u < 128 := by omega
           rw [digs_lo hl]; simp [undig, hl]
 | succ f ih =>
   intro u r h
   by_cases hl : u < 128
   · rw [digs_lo hl]; simp [undig, hl]
   · rw [digs_hi hl]
     have := ih (u / 128) r (Nat.div_lt_of_lt_mul (by rw [Nat.pow_succ] at h; omega))
     rw [List.cons_append, undig, if_neg (show ¬ 128 + u % 128 < 128 by omega), this, Option.map_some]
     congr 2
     show 128 + u % 128 - 128 + 128 * (u / 128) = u
     omega
def notedI (n : Int) : Bool := decide (-1073741824 ≤ n) && decide (n ≤ 1073741824)
def noted (x : ActS) : Bool := notedI x.kind && notedI x.a && notedI x.b && notedI x.c && notedI x.n
def bodyOf (x : ActS) : List Nat := digs (zig x.kind) ++ digs (zig x.a) ++ digs (zig x.b) ++ digs (zig x.c) ++ digs (zig x.n)
def sumOf (l : List Nat) : Nat × Nat := l.foldl (fun p b => (p.1 + b, p.2 + (p.1 + b))) (1, 0)
def frameOf (x : ActS) : List Nat := (bodyOf x).length :: (bodyOf x ++ [(sumOf (bodyOf x)).1 % 251, (sumOf (bodyOf x)).2 % 251])
theorem zig_lt {n : Int} (h : notedI n = true) : zig n < 128 ^ 5 := by
 simp [notedI] at h
 unfold zig; split <;> omega
theorem body_len {x : ActS} (h : noted x = true) : 5 ≤ (bodyOf x).length ∧ (bodyOf x).length ≤ 25 := by
 simp only [noted, Bool.and_eq_true] at h
 obtain ⟨⟨⟨⟨h1, h2⟩, h3⟩, h4⟩, h5⟩ := h
 have a1 := digs_len 4 _ (zig_lt h1)
 have a2 := digs_len 4 _ (zig_lt h2)
 have a3 := digs_len 4 _ (zig_lt h3)
 have a4 := digs_len 4 _ (zig_lt h4)
 have a5 := digs_len 4 _ (zig_lt h5)
 have b1 := digs_pos (zig x.kind)
 have b2 := digs_pos (zig x.a)
 have b3 := digs_pos (zig x.b)
 have b4 := digs_pos (zig x.c)
 have b5 := digs_pos (zig x.n)
 simp only [bodyOf, List.length_append]; omega
theorem frame_len (x : ActS) : (frameOf x).length = (bodyOf x).length + 3 := by simp [frameOf]
theorem body_byte (x : ActS) : ∀ b ∈ bodyOf x, b < 256 := by
 intro b hb
 simp only [bodyOf, List.mem_append] at hb
 rcases hb with (((h | h) | h) | h) | h <;> exact digs_byte _ b h
theorem frame_byte {x : ActS} (h : noted x = true) : ∀ b ∈ frameOf x, b < 256 := by
 intro b hb
 have := body_len h
 simp only [frameOf, List.mem_cons, List.mem_append] at hb
 rcases hb with rfl | hb | rfl | rfl | hb
 · omega
 · exact body_byte x b hb
 · omega
 · omega
 · cases hb
def parse5 (l : List Nat) : Option (ActS × List Nat) :=
 match undig 7 l with
 | none => none
 | some (u1, l1) => match undig 7 l1 with
   | none => none
   | some (u2, l2) => match undig 7 l2 with
     | none => none
     | some (u3, l3) => match undig 7 l3 with
       | none => none
       | some (u4, l4) => match undig 7 l4 with
         | none => none
         | some (u5, l5) => some (⟨zag u1, zag u2, zag u3, zag u4, zag u5⟩, l5)
theorem zig_lt7 {n : Int} (h : notedI n = true) : zig n < 128 ^ 7 := Nat.lt_of_lt_of_le (zig_lt h) (by decide)
theorem parse_body {x : ActS} (h : noted x = true) (r : List Nat) : parse5 (bodyOf x ++ r) = some (x, r) := by
 simp only [noted, Bool.and_eq_true] at h
 obtain ⟨⟨⟨⟨h1, h2⟩, h3⟩, h4⟩, h5⟩ := h
 simp only [parse5, bodyOf, List.append_assoc]
 rw [undig_digs 6 _ _ (zig_lt7 h1)]
 simp only
 rw [undig_digs 6 _ _ (zig_lt7 h2)]
 simp only
 rw [undig_digs 6 _ _ (zig_lt7 h3)]
 simp only
 rw [undig_digs 6 _ _ (zig_lt7 h4)]
 simp only
 rw [undig_digs 6 _ _ (zig_lt7 h5)]
 simp only [zag_zig]
def Stands (x : ActS) (l : List Nat) : Prop := noted x = true ∧ frameOf x <+: l
def first? (l : List Nat) : Option ActS := match l with
 | [] => none
 | k :: r => match parse5 (r.take k) with
   | some (x, []) => if noted x = true ∧ frameOf x <+: l then some x else none
   | _ => none
theorem first_iff (l : List Nat) (x : ActS) : first? l = some x ↔ Stands x l := by
 constructor
 · intro h
   unfold first? at h
   split at h
   · cases h
   · split at h
     · split at h
       · rename_i hh
         simp at h; subst h; exact hh
       · cases h
     · cases h
 · rintro ⟨nx, hp⟩
   obtain ⟨r, hr⟩ := hp
   have hl : l = (bodyOf x).length :: (bodyOf x ++ ([(sumOf (bodyOf x)).1 % 251, (sumOf (bodyOf x)).2 % 251] ++ r)) := by rw [← hr]; simp [frameOf]
   have ht : (bodyOf x ++ ([(sumOf (bodyOf x)).1 % 251, (sumOf (bodyOf x)).2 % 251] ++ r)).take (bodyOf x).length = bodyOf x := List.take_left
   have hpp := parse_body nx []
   rw [List.append_nil] at hpp
   subst hl
   unfold first?
   simp only [ht, hpp]
   rw [if_pos]
   exact ⟨nx, ⟨r, hr⟩⟩
theorem first_none (l : List Nat) : first? l = none ↔ ∀ x, ¬ Stands x l := by
 constructor
 · intro h x hx
   rw [(first_iff l x).2 hx] at h; cases h
 · intro h
   cases hf : first? l with
   | none => rfl
   | some x => exact absurd ((first_iff l x).1 hf) (h x)
def readM (l : List Nat) : List ActS := match h : first? l with
  | none => []
  | some x => x :: readM (l.drop (frameOf x).length)
termination_by l.length
decreasing_by
  have hs := ((first_iff l x).1 h).2.length_le
  have := frame_len x
  simp only [List.length_drop]
  omega
theorem readM_none {l : List Nat} (h : first? l = none) : readM l = [] := by
 rw [readM]
 split
 · rfl
 · rename_i x hx; rw [h] at hx; cases hx
theorem readM_some {l : List Nat} {x : ActS} (h : first? l = some x) : readM l = x :: readM (l.drop (frameOf x).length) := by
 rw [readM]
 split
 · rename_i hx; rw [h] at hx; cases hx
 · rename_i y hy; rw [h] at hy; simp at hy; subst hy; rfl
def bytesOf (xs : List ActS) : List Nat := xs.flatMap frameOf
theorem readM_bytes (l : List Nat) : bytesOf (readM l) <+: l ∧ ∀ x ∈ readM l, noted x = true := by
 generalize hn : l.length = n
 induction n using Nat.strongRecOn generalizing l with
 | _ n ih =>
   cases h : first? l with
   | none => rw [readM_none h]; exact ⟨by simp [bytesOf], by simp⟩
   | some x =>
     rw [readM_some h]
     obtain ⟨nx, r, hr⟩ := (first_iff l x).1 h
     have hfl := frame_len x
     have e : l.drop (frameOf x).length = r := by rw [← hr]; exact List.drop_left
     rw [e]
     have hlen : l.length = (frameOf x).length + r.length := by rw [← hr]; simp
     obtain ⟨h1, h2⟩ := ih r.length (by omega) r rfl
     refine ⟨?_, fun y hy => ?_⟩
     · obtain ⟨s, hs⟩ := h1
       exact ⟨s, by
         show frameOf x ++ bytesOf (readM r) ++ s = l
         rw [List.append_assoc, hs, hr]⟩
     · rcases List.mem_cons.1 hy with rfl | hy
       · exact nx
       · exact h2 y hy
theorem first_frame {x : ActS} (h : noted x = true) (r : List Nat) : first? (frameOf x ++ r) = some x := (first_iff _ x).2 ⟨h, r, rfl⟩
theorem first_cut {x : ActS} (h : noted x = true) {l : List Nat} (hl : l <+: frameOf x) (hlt : l.length < (frameOf x).length) : first? l = none := by
 rw [first_none]
 rintro y ⟨ny, s, hs⟩
 obtain ⟨r, hr⟩ := hl
 rw [← hs] at hr
 have h1 : (bodyOf y).length = (bodyOf x).length := by
   simp only [frameOf, List.cons_append, List.cons.injEq] at hr
   exact hr.1
 have h2 := frame_len x
 have h3 := frame_len y
 have h4 : l.length = (frameOf y).length + s.length := by rw [← hs]; simp
 omega
theorem readM_frame {x : ActS} (h : noted x = true) (r : List Nat) : readM (frameOf x ++ r) = x :: readM r := by
 rw [readM_some (first_frame h r)]
 congr 2
 exact List.drop_left
theorem readM_all : ∀ (xs : List ActS), (∀ x ∈ xs, noted x = true) → ∀ l, (∀ y, ¬ Stands y l) → readM (bytesOf xs ++ l) = xs
 | [], _, l, hl => by simpa [bytesOf] using readM_none ((first_none l).2 hl)
 | x :: r, h, l, hl => by
   have e : bytesOf (x :: r) ++ l = frameOf x ++ (bytesOf r ++ l) := by simp [bytesOf]
   rw [e, readM_frame (h x (by simp)), readM_all r (fun y hy => h y (by simp [hy])) l hl]
theorem readM_self {xs : List ActS} (h : ∀ x ∈ xs, noted x = true) : readM (bytesOf xs) = xs := by
 have := readM_all xs h [] (fun y hy => by
   have h1 : (frameOf y).length ≤ 0 := hy.2.length_le
   have := frame_len y
   omega)
 rwa [List.append_nil] at this
end Go.Proofs.Ytmkboljfbmlebac
namespace Go.Proofs.Ytmkboljfbmlebac
open Go.RowKit
set_option linter.unusedSimpArgs false
set_option linter.unusedVariables false
def bs (l : List Nat) : ByteArray := ⟨(l.map UInt8.ofNat).toArray⟩
abbrev S (l : List Nat) : Value := .string (bs l)
abbrev U8 (n : Int) : Value := .int .u8 n
def Byt (l : List Nat) : Prop := ∀ b ∈ l, b < 256
theorem bs_size (l : List Nat) : (bs l).size = l.length := by simp [bs, ByteArray.size]
theorem bs_append (l m : List Nat) : bs (l ++ m) = bs l ++ bs m := by
 apply ByteArray.ext
 simp [bs, ByteArray.data_append]
theorem bs_toList (l : List Nat) : (bs l).toList = l.map UInt8.ofNat := by unfold bs; rw [ByteArray.toList_mk]
theorem u8_inj {a b : Nat} (ha : a < 256) (hb : b < 256) (h : UInt8.ofNat a = UInt8.ofNat b) : a = b := by
 have := congrArg UInt8.toNat h
 simp [UInt8.toNat_ofNat] at this
 omega
theorem map_u8_inj : ∀ {l m : List Nat}, Byt l → Byt m → l.map UInt8.ofNat = m.map UInt8.ofNat → l = m
 | [], [], _, _, _ => rfl
 | [], _ :: _, _, _, h => by simp at h
 | _ :: _, [], _, _, h => by simp at h
 | a :: l, b :: m, hl, hm, h => by
   simp only [List.map_cons, List.cons.injEq] at h
   rw [u8_inj (hl a (by simp)) (hm b (by simp)) h.1, map_u8_inj (fun x hx => hl x (by simp [hx])) (fun x hx => hm x (by simp [hx])) h.2]
theorem bs_get {l : List Nat} {i b : Nat} (h : l[i]? = some b) (hb : b < 256) : ∃ hi : i < (bs l).size, ((bs l)[i]'hi).toNat = b := by
 obtain ⟨hi, e⟩ := List.getElem?_eq_some_iff.1 h
 refine ⟨by rw [bs_size]; exact hi, ?_⟩
 show ((l.map UInt8.ofNat).toArray[i]'(by simpa using hi)).toNat = b
 simp [e]
 omega
theorem bs_extract (l : List Nat) (i j : Nat) : (bs l).extract i j = bs ((l.take j).drop i) := by
 apply ByteArray.ext
 simp only [ByteArray.data_extract, bs]
 apply Array.ext_getElem?
 intro k
 simp only [Array.getElem?_extract, List.size_toArray, List.length_map, List.getElem?_toArray, List.getElem?_map, List.getElem?_drop, List.getElem?_take]
 by_cases h1 : k < min j l.length - i
 · rw [if_pos h1, if_pos (by omega)]
 · rw [if_neg h1]
   by_cases h2 : i + k < j
   · rw [if_pos h2, List.getElem?_eq_none (by omega)]; rfl
   · rw [if_neg h2]; rfl
theorem Byt.drop {l : List Nat} (h : Byt l) (n : Nat) : Byt (l.drop n) := fun b hb => h b (List.mem_of_mem_drop hb)
theorem Byt.take {l : List Nat} (h : Byt l) (n : Nat) : Byt (l.take n) := fun b hb => h b (List.mem_of_mem_take hb)
theorem Byt.append {l m : List Nat} (h : Byt l) (h' : Byt m) : Byt (l ++ m) := fun b hb => (List.mem_append.1 hb).elim (h b) (h' b)
theorem byt_nil : Byt [] := fun b hb => by cases hb
def strB (P : Program) (T : TypeId) : Bool := match P.underlying T with
 | some .string => true
 | _ => false
theorem strB_spec {P : Program} {T : TypeId} (h : strB P T = true) : P.underlying T = some .string := by
 unfold strB at h
 split at h
 · assumption
 · cases h
def bytesB (P : Program) (T : TypeId) : Bool := match P.underlying T with
 | some (.slice e) => (match P.underlying e with | some (.int .u8) => true | _ => false)
 | _ => false
theorem bytesB_spec {P : Program} {T : TypeId} (h : bytesB P T = true) : ∃ e, P.underlying T = some (.slice e) ∧ P.underlying e = some (.int .u8) := by
 unfold bytesB at h
 split at h
 · rename_i e hu
   split at h
   · rename_i he; exact ⟨e, hu, he⟩
   · cases h
 · cases h
def kindB (P : Program) (S T : TypeId) (k : IntKind) : Bool := (P.underlying S).isSome && (match P.underlying T with | some (.int k') => decide (k' = k) | _ => false)
section
variable {P : Program} {f : Nat → Value} {C : World → Prop} {dst : Option Nat} {ty : TypeId} {pos : String} {af : Array Edge} {gd : Option (Nat × Bool)}
theorem v_convK {x : Operand} {Sx T : TypeId} {k k' : IntKind} {n : Int} (hT : kindB P Sx T k = true) (hx : ev f x = .int k' n) : Val P f C ⟨dst, .convert Sx T x, ty, pos, af, gd⟩ (.int k (k.wrap n)) := by
 refine ⟨fun w _ => ?_⟩
 unfold kindB at hT
 simp only [Bool.and_eq_true] at hT
 obtain ⟨h1, h2⟩ := hT
 split at h2
 · rename_i k2 hu
   have e := of_decide_eq_true h2
   subst e
   have hk : P.intKind T = k2 := by simp [Program.intKind, hu]
   have := run_convert_int (P := P) w Sx T k' n h1 (by rw [hk]; exact hu)
   simp [execOp, hx, this, hk]
 · cases h2
theorem u8_wrap {n : Int} (h : 0 ≤ n ∧ n < 256) : IntKind.u8.wrap n = n := by
 simp [IntKind.wrap, IntKind.bits, IntKind.signed]; omega
theorem v_toU8 {x : Operand} {Sx T : TypeId} {n : Int} (hT : kindB P Sx T .u8 = true) (hx : ev f x = I n) (h : 0 ≤ n ∧ n < 256) : Val P f C ⟨dst, .convert Sx T x, ty, pos, af, gd⟩ (U8 n) := by
 have := v_convK (P := P) (f := f) (C := C) (dst := dst) (ty := ty) (pos := pos) (af := af) (gd := gd) (k := .u8) hT hx
 rwa [u8_wrap h] at this
theorem v_ofU8 {x : Operand} {Sx T : TypeId} {n : Int} (hT : kindB P Sx T .i64 = true) (hx : ev f x = U8 n) (h : 0 ≤ n ∧ n < 256) : Val P f C ⟨dst, .convert Sx T x, ty, pos, af, gd⟩ (I n) := by
 have := v_convK (P := P) (f := f) (C := C) (dst := dst) (ty := ty) (pos := pos) (af := af) (gd := gd) (k := .i64) hT hx
 rwa [show IntKind.i64.wrap n = n from wr_in (by omega) (by omega)] at this
theorem v_strAdd {x y : Operand} {t t' : TypeId} {a b : List Nat} (hx : ev f x = S a) (hy : ev f y = S b) (h : a.length + b.length ≤ 9223372036854775807) : Val P f C ⟨dst, .binOp .add t x y t', ty, pos, af, gd⟩ (S (a ++ b)) := by
 refine ⟨fun w _ => ?_⟩
 have := run_string_add_sum (P := P) (w := w) (bs a) (bs b) (by rw [bs_size, bs_size]; exact h)
 rw [← bs_append] at this
 simp [execOp, hx, hy, eqGuard, binOp, this]
theorem v_strEq {x y : Operand} {t t' : TypeId} {a b : List Nat} (hx : ev f x = S a) (hy : ev f y = S b) (ha : Byt a) (hb : Byt b) : Val P f C ⟨dst, .binOp .eql t x y t', ty, pos, af, gd⟩ (.bool (decide (a = b))) := by
 refine ⟨fun w _ => ?_⟩
 have e : ((bs a).toList == (bs b).toList) = decide (a = b) := by
   rw [bs_toList, bs_toList, Bool.eq_iff_iff, beq_iff_eq, decide_eq_true_iff]
   exact ⟨map_u8_inj ha hb, fun h => by rw [h]⟩
 simp [execOp, hx, hy, eqGuard, binOp, Op.stringOp, e]
theorem v_strNe {x y : Operand} {t t' : TypeId} {a b : List Nat} (hx : ev f x = S a) (hy : ev f y = S b) (ha : Byt a) (hb : Byt b) : Val P f C ⟨dst, .binOp .neq t x y t', ty, pos, af, gd⟩ (.bool (!decide (a = b))) := by
 refine ⟨fun w _ => ?_⟩
 have e : ((bs a).toList == (bs b).toList) = decide (a = b) := by
   rw [bs_toList, bs_toList, Bool.eq_iff_iff, beq_iff_eq, decide_eq_true_iff]
   exact ⟨map_u8_inj ha hb, fun h => by rw [h]⟩
 simp [execOp, hx, hy, eqGuard, binOp, Op.stringOp, e]
theorem v_strLen {x : Operand} {T : TypeId} {ats : Array TypeId} {a : List Nat} (hT : strB P T = true) (ha : ats = #[T]) (hx : ev f x = S a) : Val P f C ⟨dst, .call ⟨.builtin .len, #[x], ats⟩, ty, pos, af, gd⟩ (I a.length) := by
 refine ⟨fun w _ => ?_⟩
 subst ha
 have := run_len_string (P := P) w T ty (bs a) (strB_spec hT)
 simp [execOp, resolve, invoke, builtin, hx, this, bs_size, goInt]
theorem v_strIdx {x y : Operand} {T : TypeId} {k : IntKind} {a : List Nat} {i : Int} {b : Nat} (hT : strB P T = true) (hx : ev f x = S a) (hy : ev f y = .int k i) (h0 : 0 ≤ i) (hi : a[i.toNat]? = some b) (hb : b < 256) : Val P f C ⟨dst, .index T x y, ty, pos, af, gd⟩ (U8 b) := by
 refine ⟨fun w _ => ?_⟩
 obtain ⟨hlt, e⟩ := bs_get hi hb
 have := run_index_string (P := P) w T (bs a) k i (strB_spec hT)
 rw [dif_pos ⟨h0, by omega⟩] at this
 simp [execOp, hx, hy, this, e]
theorem v_strLo {x y : Operand} {T : TypeId} {k : IntKind} {a : List Nat} {i : Int} (hT : strB P T = true) (hx : ev f x = S a) (hy : ev f y = .int k i) (hi : 0 ≤ i ∧ i ≤ a.length) : Val P f C ⟨dst, .slice T x (some y) none none, ty, pos, af, gd⟩ (S (a.drop i.toNat)) := by
 refine ⟨fun w _ => ?_⟩
 have := run_slice_string_from_if (P := P) w T (bs a) k i (strB_spec hT)
 rw [if_pos ⟨hi.1, by rw [bs_size]; exact hi.2⟩, bs_size, bs_extract, List.take_of_length_le (Nat.le_refl _)] at this
 simp [execOp, hx, hy, Instr.sliceAt, run_underlying (strB_spec hT), this]
theorem v_strHi {x y : Operand} {T : TypeId} {k : IntKind} {a : List Nat} {i : Int} (hT : strB P T = true) (hx : ev f x = S a) (hy : ev f y = .int k i) (hi : 0 ≤ i ∧ i ≤ a.length) : Val P f C ⟨dst, .slice T x none (some y) none, ty, pos, af, gd⟩ (S (a.take i.toNat)) := by
 refine ⟨fun w _ => ?_⟩
 have := run_slice_string_to_if (P := P) w T (bs a) k i (strB_spec hT)
 rw [if_pos ⟨hi.1, by rw [bs_size]; exact hi.2⟩, bs_extract, List.drop_zero] at this
 simp [execOp, hx, hy, Instr.sliceAt, run_underlying (strB_spec hT), this]
theorem run_strOf {w : World} {Sx T : TypeId} {b o c : Nat} {l : List Nat} (hS : bytesB P Sx = true) (hT : strB P T = true) (hb : Byt l) (hc : ∀ j n : Nat, l[j]? = some n → w.cell? ⟨b, o + j, none⟩ = some (U8 n)) :
   (convert Sx T (.slice (some ⟨b, o, none⟩) l.length c)).run P w = .ok (S l) w := by
 obtain ⟨e, h1, h2⟩ := bytesB_spec hS
 have := run_convert_bytes_back (P := P) w Sx T e ⟨b, o, none⟩ c (l.map UInt8.ofNat) h1 h2 (strB_spec hT) (fun j hj => by
   have hj' : j < l.length := by simpa using hj
   rw [add_off, hc j l[j] (by simp [hj'])]
   have := hb l[j] (List.getElem_mem hj')
   simp
   omega)
 rw [List.length_map] at this
 exact this
variable {ops : Array Oper} {K : (Nat → Value) → World → Prop} {rest : List Oper} {d : Nat} {w0 : World} {F : Addr → Value → Prop} {L : List (Nat × Obj)}
theorem v_strOf {x : Operand} {Sx T b c t : Nat} {fr : Nat × Nat} {cs : Array Value} {n : Nat} {l : List Nat} (hS : bytesB P Sx = true) (hT : strB P T = true) (hx : ev f x = .slice (some ⟨b, 0, none⟩) n c) (hn : n = l.length) (hl : Look L b (.cells cs t fr)) (hb : Byt l) (hc : ∀ j m : Nat, l[j]? = some m → cs[j]? = some (U8 m)) :
   Val P f (Has w0 F L) ⟨dst, .convert Sx T x, ty, pos, af, gd⟩ (S l) := by
 refine ⟨fun w hw => ?_⟩
 subst hn
 have := run_strOf (P := P) (w := w) (b := b) (o := 0) (c := c) hS hT hb (fun j m hj => by rw [Nat.zero_add, cell_has hw hl]; exact hc j m hj)
 simp [execOp, hx, this]
theorem n_doneT {fn : Func} {n t t2 : Nat} {v : Value} (hr : fn.results = #[.tmp t, .tmp t2]) (ht : t < n) (ht2 : t2 < n) (hv : .tuple #[f t, f t2] = v) :
   nC (retQ P fn n (fun v' w' => v' = v ∧ Bel w0.heap.size w0 w')) .ret f (Has w0 F L) := fun w hw => by
 refine ⟨.tuple #[f t, f t2], ?_, hv, hw.1⟩
 have e : (Fa n f).tmps[t]?.getD undef = f t := by simp [Fa, ht]
 have e2 : (Fa n f).tmps[t2]?.getD undef = f t2 := by simp [Fa, ht2]
 simp [results, hr, e, e2]
theorem n_doneTF {fn : Func} {n t t2 : Nat} {R : (Addr → Value → Prop) → Value → Prop} (hr : fn.results = #[.tmp t, .tmp t2]) (ht : t < n) (ht2 : t2 < n) (hv : ∀ w, Has w0 F L w → R (Fresh w0 w) (.tuple #[f t, f t2])) :
   nC (retQ P fn n (fun v w' => Bel w0.heap.size w0 w' ∧ R (Fresh w0 w') v)) .ret f (Has w0 F L) := fun w hw => by
 refine ⟨.tuple #[f t, f t2], ?_, hw.1, hv w hw⟩
 have e : (Fa n f).tmps[t]?.getD undef = f t := by simp [Fa, ht]
 have e2 : (Fa n f).tmps[t2]?.getD undef = f t2 := by simp [Fa, ht2]
 simp [results, hr, e, e2]
end
def ActS.cells (x : ActS) : Array Value := #[I x.kind, I x.a, I x.b, I x.c, I x.n]
theorem ActS.size (x : ActS) : x.cells.size = 5 := rfl
theorem ActS.all1 (x : ActS) : x.cells.all (·.oneCell') = true := by simp [ActS.cells, Value.oneCell']
theorem fill_one {v : Value} {m : Nat} (hs : v.cells.size = m) (z : Array Value) (hz : z.size = m) : Instr.fill (fun i => some (i * m, m)) ((Array.range (1 * m)).map (z[· % z.size]!)) [(0, v)] = some v.cells := by
 have hsz : ((Array.range (1 * m)).map (z[· % z.size]!)).size = m := by simp
 generalize (Array.range (1 * m)).map (z[· % z.size]!) = cs at hsz
 simp only [Instr.fill, Nat.zero_mul, Nat.zero_add]
 rw [if_neg (by simp [hs, hsz])]
 congr 1
 have key : ∀ (l : List Value) (k : Nat) (a : Array Value), ((l.zipIdx k).foldl (fun cs (p : Value × Nat) => cs.setIfInBounds p.2 p.1) a).size = a.size ∧ ∀ j, ((l.zipIdx k).foldl (fun cs (p : Value × Nat) => cs.setIfInBounds p.2 p.1) a)[j]? = if k ≤ j ∧ j < k + l.length ∧ j < a.size then l[j - k]? else a[j]? := by
   intro l
   induction l with
   | nil => intro k a; exact ⟨rfl, fun j => by rw [if_neg (by simp; omega)]; rfl⟩
   | cons x r ih =>
     intro k a
     simp only [List.zipIdx_cons, List.foldl_cons]
     obtain ⟨h1, h2⟩ := ih (k + 1) (a.setIfInBounds k x)
     refine ⟨by rw [h1]; simp, fun j => ?_⟩
     rw [h2 j]
     simp only [Array.size_setIfInBounds, List.length_cons]
     by_cases hj : j = k
     · subst hj
       rw [if_neg (by omega)]
       by_cases hlt : j < a.size
       · rw [if_pos ⟨by omega, by omega, hlt⟩]; simp [hlt]
       · rw [if_neg (by omega)]; simp [hlt]
     · by_cases hc : k + 1 ≤ j ∧ j < k + 1 + r.length ∧ j < a.size
       · rw [if_pos hc, if_pos ⟨by omega, by omega, hc.2.2⟩, show j - k = (j - (k + 1)) + 1 by omega, List.getElem?_cons_succ]
       · rw [if_neg hc, if_neg (by omega), Array.getElem?_setIfInBounds_ne (Ne.symm hj)]
 have := key v.cells.toList 0 cs
 have e : v.cells.zipIdx.foldl (fun cs (p : Value × Nat) => cs.setIfInBounds (0 + p.2) p.1) cs = (v.cells.toList.zipIdx 0).foldl (fun cs (p : Value × Nat) => cs.setIfInBounds p.2 p.1) cs := by
   rw [← Array.foldl_toList]
   simp
 simp only [Nat.zero_add] at e
 rw [e]
 apply Array.ext_getElem?
 intro j
 rw [this.2 j]
 by_cases hj : j < m
 · rw [if_pos ⟨by omega, by simp [hs]; exact hj, by omega⟩]; simp
 · rw [if_neg (by simp [hs]; omega), Array.getElem?_eq_none (by omega), Array.getElem?_eq_none (by omega)]
end Go.Proofs.Ytmkboljfbmlebac
namespace Go.Proofs.Ytmkboljfbmlebac
open Go.RowKit
set_option linter.unusedSimpArgs false
set_option linter.unusedVariables false
theorem sum_snoc (l : List Nat) (b : Nat) : sumOf (l ++ [b]) = ((sumOf l).1 + b, (sumOf l).2 + ((sumOf l).1 + b)) := by simp [sumOf, List.foldl_append]
theorem sum_step {l : List Nat} {k b : Nat} (h : l[k]? = some b) : sumOf (l.take (k + 1)) = ((sumOf (l.take k)).1 + b, (sumOf (l.take k)).2 + ((sumOf (l.take k)).1 + b)) := by
 rw [List.take_add_one, h]
 exact sum_snoc _ b
theorem sum_bound {l : List Nat} (hb : Byt l) : ∀ k, (sumOf (l.take k)).1 ≤ 1 + 255 * k ∧ (sumOf (l.take k)).2 ≤ k * (1 + 255 * k)
 | 0 => by simp [sumOf]
 | k + 1 => by
   have ih := sum_bound hb k
   cases h : l[k]? with
   | none =>
     rw [List.take_add_one, h]
     simp only [Option.toList_none, List.append_nil]
     refine ⟨by omega, Nat.le_trans ih.2 ?_⟩
     exact Nat.mul_le_mul (by omega) (by omega)
   | some b =>
     have hb' := hb b (List.mem_of_getElem? h)
     rw [sum_step h]
     refine ⟨by simp only; omega, ?_⟩
     simp only
     have e : (k + 1) * (1 + 255 * (k + 1)) = k * (1 + 255 * k) + k * 255 + (1 + 255 * (k + 1)) := by
       rw [Nat.add_mul, Nat.one_mul, show 1 + 255 * (k + 1) = (1 + 255 * k) + 255 by omega, Nat.mul_add]
     omega
theorem tmod_nat (a b : Nat) : ((a : Int)).tmod (b : Int) = ((a % b : Nat) : Int) := by rw [Int.tmod_eq_emod_of_nonneg (by omega)]; omega
theorem tdiv_nat (a b : Nat) : ((a : Int)).tdiv (b : Int) = ((a / b : Nat) : Int) := by rw [Int.tdiv_eq_ediv_of_nonneg (by omega)]; omega
theorem zig_neg {n : Int} (h : n < 0) : -2 * n - 1 = ((zig n : Nat) : Int) := by unfold zig; rw [if_pos h]; omega
theorem zig_pos {n : Int} (h : ¬ n < 0) : 2 * n = ((zig n : Nat) : Int) := by unfold zig; rw [if_neg h]; omega
theorem notedI_iff {n : Int} : notedI n = true ↔ -1073741824 ≤ n ∧ n ≤ 1073741824 := by simp [notedI]
theorem noted_all {x : ActS} (h : noted x = true) : notedI x.kind = true ∧ notedI x.a = true ∧ notedI x.b = true ∧ notedI x.c = true ∧ notedI x.n = true := by
 simp only [noted, Bool.and_eq_true] at h
 exact ⟨h.1.1.1.1, h.1.1.1.2, h.1.1.2, h.1.2, h.2⟩
theorem digs_len5 {n : Int} (h : notedI n = true) : (digs (zig n)).length ≤ 5 := digs_len 4 _ (zig_lt h)
end Go.Proofs.Ytmkboljfbmlebac
namespace Go.Proofs.Ytmkboljfbmlebac
open Go.RowKit
set_option linter.unusedSimpArgs false
set_option linter.unusedVariables false
def fText (a : ActS) : List Nat := bif noted a then frameOf a else []
def fErr (a : ActS) : Int := bif noted a then 0 else 3
def frameR (a : ActS) : Value := .tuple #[S (fText a), I (fErr a)]
theorem frameR_yes {a : ActS} (h : noted a = true) : frameR a = .tuple #[S (frameOf a), I 0] := by simp [frameR, fText, fErr, h]
theorem frameR_no {a : ActS} (h : noted a = false) : frameR a = .tuple #[S [], I 3] := by simp [frameR, fText, fErr, h]
theorem fErr_ok {a : ActS} (h : fErr a = 0) : noted a = true := by
 cases hn : noted a
 · simp [fErr, hn] at h
 · rfl
theorem fText_byt (a : ActS) : Byt (fText a) := by
 unfold fText
 cases hn : noted a
 · exact byt_nil
 · exact frame_byte hn
structure Dig (t : List Nat) (j u : Nat) : Prop where
 j6 : j ≤ 6
 ub : u < 128 ^ j
 jl : j ≤ t.length
 rel : undig 7 t = (undig (7 - j) (t.drop j)).map fun p => (u + 128 ^ j * p.1, p.2)
theorem drop_cons {t : List Nat} {j b : Nat} (h : t[j]? = some b) : t.drop j = b :: t.drop (j + 1) := by
 obtain ⟨hj, e⟩ := List.getElem?_eq_some_iff.1 h
 rw [List.drop_eq_getElem_cons hj, e]
theorem Dig.step {t : List Nat} {j u b : Nat} (o : Dig t j u) (hb : t[j]? = some b) (h1 : 128 ≤ b) (h2 : b < 256) (hj : j < 6) : Dig t (j + 1) (u + (b - 128) * 128 ^ j) := by
 refine ⟨by omega, ?_, (List.getElem?_eq_some_iff.1 hb).1, ?_⟩
 · have := o.ub
   have h3 : (b - 128) * 128 ^ j ≤ 127 * 128 ^ j := Nat.mul_le_mul_right _ (by omega)
   rw [Nat.pow_succ]; omega
 · rw [o.rel, drop_cons hb, show 7 - j = (7 - (j + 1)) + 1 by omega, undig, if_neg (by omega)]
   cases undig (7 - (j + 1)) (t.drop (j + 1)) with
   | none => rfl
   | some p =>
     simp only [Option.map_some]
     congr 2
     rw [Nat.mul_add, Nat.pow_succ, ← Nat.mul_assoc, Nat.mul_comm (128 ^ j) (b - 128), Nat.add_assoc]
theorem Dig.stop {t : List Nat} {j u : Nat} (o : Dig t j u) (h : t.length ≤ j) : undig 7 t = none := by
 rw [o.rel, List.drop_eq_nil_of_le h, show 7 - j = (6 - j) + 1 by have := o.j6; omega]
 rfl
theorem Dig.last {t : List Nat} {j u b : Nat} (o : Dig t j u) (hb : t[j]? = some b) (h1 : b < 128) : undig 7 t = some (u + b * 128 ^ j, t.drop (j + 1)) ∧ u + b * 128 ^ j < 128 ^ 7 := by
 have h6 := o.j6
 refine ⟨?_, ?_⟩
 · rw [o.rel, drop_cons hb, show 7 - j = (6 - j) + 1 by omega, undig, if_pos h1, Option.map_some, Nat.mul_comm (128 ^ j) b]
 · have := o.ub
   have h3 : b * 128 ^ j ≤ 127 * 128 ^ j := Nat.mul_le_mul_right _ (by omega)
   have h4 : 128 ^ (j + 1) ≤ 128 ^ 7 := Nat.pow_le_pow_right (by omega) (by omega)
   rw [Nat.pow_succ] at h4
   omega
def nums : Nat → List Nat → Option (List Nat × List Nat)
 | 0, l => some ([], l)
 | k + 1, l => match nums k l with
   | none => none
   | some (us, t) => (undig 7 t).map fun p => (us ++ [p.1], p.2)
theorem nums_step {k : Nat} {l us t : List Nat} (h : nums k l = some (us, t)) : nums (k + 1) l = (undig 7 t).map fun p => (us ++ [p.1], p.2) := by simp only [nums, h]
def actOf (us : List Nat) : ActS := ⟨zag (us.getD 0 0), zag (us.getD 1 0), zag (us.getD 2 0), zag (us.getD 3 0), zag (us.getD 4 0)⟩
theorem actOf_zig (x : ActS) : actOf [zig x.kind, zig x.a, zig x.b, zig x.c, zig x.n] = x := by simp [actOf, zag_zig]
def vnum (us : List Nat) (i : Nat) : Int := if i < us.length then zag (us.getD i 0) else 0
def vrow (us : List Nat) : Array Value := Array.ofFn (n := 5) fun i => I (vnum us i.val)
theorem vrow_size (us : List Nat) : (vrow us).size = 5 := by simp [vrow]
theorem vrow_at (us : List Nat) (i : Nat) (hi : i < 5) : (vrow us)[0 + ((i : Nat) : Int).toNat * 1]? = some (I (vnum us i)) := by
 have e : 0 + ((i : Nat) : Int).toNat * 1 = i := by omega
 rw [e]
 simp [vrow, hi]
theorem vrow_set {us : List Nat} {u k : Nat} (hk : us.length = k) (h5 : k < 5) : (vrow us).setIfInBounds (0 + ((k : Nat) : Int).toNat * 1) (I (zag u)) = vrow (us ++ [u]) := by
 have e : 0 + ((k : Nat) : Int).toNat * 1 = k := by omega
 rw [e]
 unfold vrow
 exact setq (fun i => I (vnum us i)) (fun i => I (vnum (us ++ [u]) i)) (fun i hi => by
   unfold vnum
   rw [List.length_append]
   simp only [List.length_cons, List.length_nil]
   by_cases h : i = k
   · subst h
     rw [if_pos (by omega), if_pos rfl]
     congr 2
     rw [List.getD_eq_getElem?_getD, List.getElem?_append_right (by omega), hk]
     simp
   · rw [if_neg h]
     by_cases h2 : i < us.length
     · rw [if_pos (by omega), if_pos h2]
       congr 2
       rw [List.getD_eq_getElem?_getD, List.getD_eq_getElem?_getD, List.getElem?_append_left h2]
     · rw [if_neg (by omega), if_neg h2])
def act5 (us : List Nat) : ActS := ⟨vnum us 0, vnum us 1, vnum us 2, vnum us 3, vnum us 4⟩
theorem act5_of {us : List Nat} (h : us.length = 5) : act5 us = actOf us := by simp [act5, actOf, vnum, h]
structure PG where
 k : Nat
 us : List Nat
 pos : Nat
structure PgOk (k0 : Nat) (B : List Nat) (t : PG) : Prop where
 k5 : t.k ≤ 5
 ul : t.us.length = t.k
 p1 : 1 ≤ t.pos ∧ t.pos ≤ k0 + 1
 run : nums t.k B = some (t.us, B.drop (t.pos - 1))
theorem PgOk.next {k0 : Nat} {B : List Nat} {t : PG} (o : PgOk k0 B t) (hB : B.length = k0) (hk : t.k < 5) {j u b : Nat} (hd : Dig (B.drop (t.pos - 1)) j u) (hb : (B.drop (t.pos - 1))[j]? = some b) (h1 : b < 128) : PgOk k0 B ⟨t.k + 1, t.us ++ [u + b * 128 ^ j], t.pos + j + 1⟩ := by
 have hl := (List.getElem?_eq_some_iff.1 hb).1
 rw [List.length_drop] at hl
 have hp := o.p1
 refine ⟨hk, by simp [o.ul], by simp only; omega, ?_⟩
 rw [nums_step o.run, (hd.last hb h1).1, Option.map_some, List.drop_drop, show t.pos - 1 + (j + 1) = t.pos + j + 1 - 1 by omega]
def flatA (xs : List ActS) : List Value := xs.flatMap fun x => x.cells.toList
def ActsIn (F : Addr → Value → Prop) (v : Value) (xs : List ActS) : Prop := ∃ a c, v = .slice a xs.length c ∧ xs.length ≤ c ∧ (xs = [] ∨ ∃ b o, a = some ⟨b, o, none⟩ ∧ ∀ (j : Nat) (x : ActS), xs[j]? = some x → ∀ (k : Nat) (v : Value), x.cells[k]? = some v → F ⟨b, o + j * 5 + k, none⟩ v)
theorem flatA_get : ∀ (xs : List ActS) (j : Nat) (x : ActS), xs[j]? = some x → ∀ (k : Nat) (v : Value), x.cells[k]? = some v → (flatA xs)[j * 5 + k]? = some v
 | [], j, x, h, _, _, _ => by simp at h
 | q :: r, j, x, h, k, v, hv => by
   have hk : k < 5 := by
     rcases Nat.lt_or_ge k 5 with h | h
     · exact h
     · rw [Array.getElem?_eq_none (by simpa [ActS.cells] using h)] at hv; cases hv
   have hl : q.cells.toList.length = 5 := rfl
   cases j with
   | zero =>
     simp at h; subst h
     simp only [flatA, List.flatMap_cons, Nat.zero_mul, Nat.zero_add]
     rw [List.getElem?_append_left (by rw [hl]; exact hk)]
     simpa using hv
   | succ j =>
     simp only [List.getElem?_cons_succ] at h
     simp only [flatA, List.flatMap_cons]
     rw [List.getElem?_append_right (by rw [hl]; omega), hl, show (j + 1) * 5 + k - 5 = j * 5 + k by omega]
     exact flatA_get r j x h k v hv
theorem acts_of_list {F : Addr → Value → Prop} {e : Nat} {v : Value} {xs : List ActS} {E : List (Nat × Obj)} (h : ListE e 5 v xs.length (flatA xs) E) (hk : Knows F E) : ActsIn F v xs := by
 rcases h.2 with ⟨rfl, h2, rfl⟩ | ⟨g, cap, cur, rfl, rfl, h3, h4, h5, h6⟩
 · have : xs = [] := List.eq_nil_of_length_eq_zero h2
   subst this
   exact ⟨none, 0, rfl, Nat.le_refl _, .inl rfl⟩
 · refine ⟨_, _, rfl, h3, .inr ⟨g, 0, rfl, fun j x hj k v hv => ?_⟩⟩
   rw [Nat.zero_add]
   refine hk g cur e (0, 0) (by simp) _ _ ?_
   have e1 := flatA_get xs j x hj k v hv
   rw [← h6, List.getElem?_take] at e1
   split at e1
   · simpa using e1
   · cases e1
theorem acts_mono (xs : List ActS) : Mono (fun F v => ActsIn F v xs) := by
 rintro F F' v hm ⟨a, c, h1, h2, h3⟩
 refine ⟨a, c, h1, h2, ?_⟩
 rcases h3 with h3 | ⟨b, o, h3, h4⟩
 · exact .inl h3
 · exact .inr ⟨b, o, h3, fun j x hj k v hv => hm _ _ (h4 j x hj k v hv)⟩
def ReadF (l : List Nat) (F : Addr → Value → Prop) (v : Value) : Prop := ∃ v1, v = .tuple #[v1, I (bytesOf (readM l)).length] ∧ ActsIn F v1 (readM l)
theorem readF_mono (l : List Nat) : Mono (ReadF l) := by
 rintro F F' v hm ⟨v1, h1, h2⟩
 exact ⟨v1, h1, acts_mono _ _ _ _ hm h2⟩
structure RB where
 xs : List ActS
 v : Value
 E : List (Nat × Obj)
structure RbOk (e : Nat) (l : List Nat) (t : RB) : Prop where
 list : ListE e 5 t.v t.xs.length (flatA t.xs) t.E
 front : (bytesOf t.xs).length ≤ l.length
 read : readM l = t.xs ++ readM (l.drop (bytesOf t.xs).length)
 eight : t.xs.length * 3 ≤ (bytesOf t.xs).length
theorem RbOk.done {e : Nat} {l : List Nat} {t : RB} (o : RbOk e l t) (h : first? (l.drop (bytesOf t.xs).length) = none) {F : Addr → Value → Prop} (hk : Knows F t.E) : ReadF l F (.tuple #[t.v, I (bytesOf t.xs).length]) := by
 have e1 := o.read
 rw [readM_none h, List.append_nil] at e1
 unfold ReadF
 rw [e1]
 exact ⟨_, rfl, acts_of_list o.list hk⟩
theorem RbOk.next {e : Nat} {l : List Nat} {t : RB} (o : RbOk e l t) {x : ActS} (h : first? (l.drop (bytesOf t.xs).length) = some x) {v' : Value} {E' : List (Nat × Obj)} (hl : ListE e 5 v' (t.xs.length + 1) (flatA t.xs ++ x.cells.toList) E') : RbOk e l ⟨t.xs ++ [x], v', E'⟩ ∧ (bytesOf (t.xs ++ [x])).length = (bytesOf t.xs).length + (bodyOf x).length + 3 := by
 have hb : bytesOf (t.xs ++ [x]) = bytesOf t.xs ++ frameOf x := by simp [bytesOf]
 have hfl := frame_len x
 have hs := ((first_iff _ _).1 h).2.length_le
 rw [List.length_drop] at hs
 have hfr := o.front
 have h8 := o.eight
 refine ⟨⟨by simpa [flatA] using hl, ?_, ?_, ?_⟩, by rw [hb, List.length_append]; omega⟩
 · simp only; rw [hb, List.length_append]; omega
 · simp only
   rw [o.read, readM_some h, hb, List.length_append, List.append_assoc, List.drop_drop]
   rfl
 · simp only; rw [hb, List.length_append, List.length_append]; simp only [List.length_cons, List.length_nil]; omega
end Go.Proofs.Ytmkboljfbmlebac
namespace Go.Proofs.Ytmkboljfbmlebac
open Go.RowKit
set_option linter.unusedSimpArgs false
set_option linter.unusedVariables false
def GoodPs (ps : List PayS) : Prop := ∀ p ∈ ps, goodPayB p = true
theorem goB_all {nx : Int} : ∀ (ps : List PayS) (seen : List Int), goB nx seen ps = true → GoodPs ps ∧ (∀ p ∈ ps, p.seq ∉ seen) ∧ ∀ (i j : Nat) (p q : PayS), ps[i]? = some p → ps[j]? = some q → p.seq = q.seq → i = j
 | [], seen, _ => ⟨fun p hp => (by cases hp), fun p hp => (by cases hp), fun i j p q h => (by simp at h)⟩
 | x :: r, seen, h => by
   simp only [goB] at h
   cases hb : (!goodPayB x || decide (nx ≤ x.seq) || decide (x.seq ∈ seen))
   · rw [hb] at h
     simp only [cond_false] at h
     simp only [Bool.or_eq_false_iff, Bool.not_eq_false', decide_eq_false_iff_not] at hb
     obtain ⟨h1, h2, h3⟩ := goB_all r _ h
     have hx : ∀ p ∈ r, p.seq ≠ x.seq := fun p hp e => h2 p hp (by rw [e]; simp)
     refine ⟨fun p hp => ?_, fun p hp => ?_, fun i j p q hi hj e => ?_⟩
     · rcases List.mem_cons.1 hp with rfl | hp
       · exact hb.1.1
       · exact h1 p hp
     · rcases List.mem_cons.1 hp with rfl | hp
       · exact hb.2
       · exact fun hm => h2 p hp (by simp [hm])
     · cases i with
       | zero =>
         cases j with
         | zero => rfl
         | succ j =>
           simp at hi hj; subst hi
           exact absurd e.symm (hx q (List.mem_of_getElem? hj))
       | succ i =>
         cases j with
         | zero =>
           simp at hi hj; subst hj
           exact absurd e (hx p (List.mem_of_getElem? hi))
         | succ j =>
           simp at hi hj
           rw [h3 i j p q hi hj e]
   · rw [hb] at h; cases h
theorem good_pays {h : H} {ps : List PayS} (hg : goodB h ps = true) : GoodPs ps ∧ SeqsApart ps ∧ ps.length ≤ 24 := by
 unfold goodB goodPaysB at hg
 simp only [Bool.and_eq_true] at hg
 obtain ⟨⟨⟨⟨_, h1⟩, _⟩, _⟩, _⟩ := hg
 cases hl : decide (24 < (ps.length : Int))
 · rw [hl] at h1
   simp only [cond_false] at h1
   obtain ⟨e1, _, e3⟩ := goB_all ps [] h1
   have := of_decide_eq_false hl
   exact ⟨e1, e3, by omega⟩
 · rw [hl] at h1; cases h1
structure Room (k : Int) (h : H) : Prop where
 has : ∀ i : Int, 0 ≤ i ∧ i < 4 → -1099478073344 - k * 1000000 ≤ h.has i ∧ h.has i ≤ 1099478073344 + k * 1000000
 cred : ∀ i : Int, 0 ≤ i ∧ i < 4 → 0 ≤ h.cred i ∧ h.cred i ≤ 1000000
 diag : ∀ i : Int, 0 ≤ i ∧ i < 4 → h.sent i i = 0
 sent : ∀ i j : Int, 0 ≤ i ∧ i < 4 → 0 ≤ j ∧ j < 4 → 0 ≤ h.sent i j ∧ h.sent i j ≤ 1099478073344 + k * 1000000
 lim : ∀ i j : Int, 0 ≤ i ∧ i < 4 → 0 ≤ j ∧ j < 4 → -1 ≤ h.lim i j ∧ h.lim i j ≤ 1000000
theorem Room.good {k : Int} {h : H} (r : Room k h) (hk : k ≤ 33) : GoodH h :=
 ⟨fun i hi => by have := r.has i hi; omega, r.cred, r.diag, fun i j hi hj => by have := r.sent i j hi hj; omega, r.lim⟩
theorem Room.move {k : Int} {h : H} (r : Room k h) (h0 : 0 ≤ k) (hk : k ≤ 32) {a b n : Int} (ht : goodTransferB a b n = true) : Room (k + 1) (moveM h a b n) := by
 obtain ⟨ha, hb, hne, h1, h2⟩ := transfer_spec ht
 rw [move_eq (r.good (by omega)) ht]
 refine ⟨fun i hi => ?_, r.cred, fun i hi => ?_, fun i j hi hj => ?_, r.lim⟩
 · have e1 := r.has i hi
   simp only [up1]
   split
   · rename_i e; subst e; omega
   · split
     · rename_i e; subst e; omega
     · omega
 · simp only [up2]
   split
   · rename_i e; exact absurd (e.1.symm.trans e.2) hne
   · exact r.diag i hi
 · have e1 := r.sent i j hi hj
   simp only [up2]
   split
   · rename_i e; obtain ⟨e2, e3⟩ := e; subst e2; subst e3; omega
   · omega
theorem settleP_good {ps : List PayS} (hg : GoodPs ps) (i : Int) : GoodPs (settleP ps i) := by
 unfold settleP
 split
 · rename_i p hs
   intro q hq
   obtain ⟨_, hp, _⟩ := settles_spec hs
   rcases List.mem_or_eq_of_mem_set hq with hq | rfl
   · exact hg q hq
   · have := hg p (List.mem_of_getElem? hp)
     simp only [goodPayB, goodStateB, Bool.and_eq_true] at this ⊢
     exact ⟨⟨this.1.1, by simp⟩, this.2⟩
 · exact hg
theorem pay_transfer {p : PayS} (h : goodPayB p = true) : goodTransferB p.src p.dst p.amt = true := by
 simp only [goodPayB, Bool.and_eq_true] at h
 exact h.1.1.1
end Go.Proofs.Ytmkboljfbmlebac
namespace Go.Proofs.Ytmkboljfbmlebac
open Go.RowKit
set_option linter.unusedSimpArgs false
set_option linter.unusedVariables false
theorem settleP_at {ps : List PayS} {i : Int} {p : PayS} (h : settles ps i = some p) (j : Nat) : (settleP ps i)[j]? = if j = i.toNat then some { p with sta := 2 } else ps[j]? := by
 obtain ⟨h0, hp, h1⟩ := settles_spec h
 have hlt := (List.getElem?_eq_some_iff.1 hp).1
 simp only [settleP, h]
 rw [List.getElem?_set]
 by_cases hj : j = i.toNat
 · subst hj; simp [hlt]
 · rw [if_neg (Ne.symm hj), if_neg hj]
theorem settleP_old {ps : List PayS} {i : Int} {j : Nat} {q : PayS} (h : (settleP ps i)[j]? = some q) : ∃ p, ps[j]? = some p ∧ p.seq = q.seq ∧ p.cls = q.cls := by
 cases hs : settles ps i with
 | none => simp only [settleP, hs] at h; exact ⟨q, h, rfl, rfl⟩
 | some p =>
   rw [settleP_at hs] at h
   split at h
   · rename_i e
     subst e
     simp at h; subst h
     exact ⟨p, (settles_spec hs).2.1, rfl, rfl⟩
   · exact ⟨q, h, rfl, rfl⟩
theorem settleP_new {ps : List PayS} {i : Int} {j : Nat} {p : PayS} (h : ps[j]? = some p) : ∃ q, (settleP ps i)[j]? = some q ∧ p.seq = q.seq ∧ p.cls = q.cls := by
 have hlt := (List.getElem?_eq_some_iff.1 h).1
 obtain ⟨q, hq⟩ : ∃ q, (settleP ps i)[j]? = some q := ⟨(settleP ps i)[j]'(by rw [settleP_len]; exact hlt), by simp⟩
 obtain ⟨p', hp', e⟩ := settleP_old hq
 rw [h] at hp'; simp at hp'; subst hp'
 exact ⟨q, hq, e⟩
theorem SeqsApart.settle {ps : List PayS} (hs : SeqsApart ps) (n : Int) : SeqsApart (settleP ps n) := by
 intro i j p q hp hq e
 obtain ⟨p', hp', e1, _⟩ := settleP_old hp
 obtain ⟨q', hq', e2, _⟩ := settleP_old hq
 exact hs i j p' q' hp' hq' (by omega)
theorem lessK_settle {ps : List PayS} {n a b : Int} (h : lessK ps a b) : lessK (settleP ps n) a b := by
 obtain ⟨p, q, hp, hq, hl⟩ := h
 obtain ⟨p', hp', e1, e2⟩ := settleP_new (i := n) hp
 obtain ⟨q', hq', e3, e4⟩ := settleP_new (i := n) hq
 exact ⟨p', q', hp', hq', by unfold payLt at *; omega⟩
theorem queueM_nodup (ps : List PayS) (bank : Int) : (queueM ps bank).Nodup := (queueTo_spec ps bank ps.length).nodup
theorem queue_tail {ps : List PayS} {bank i : Int} {r : List Int} (hs : SeqsApart ps) (hq : queueM ps bank = i :: r) : queueM (settleP ps i) bank = r := by
 have hn := queueM_nodup ps bank
 rw [hq] at hn
 obtain ⟨hn1, hn2⟩ := List.nodup_cons.1 hn
 obtain ⟨p, hst, hpi, hsta, hsrc⟩ := (queueM_mine (show i ∈ queueM ps bank by rw [hq]; simp)).settles
 have hi0 := (settles_spec hst).1
 have hso := queueM_sorted hs bank
 rw [hq] at hso
 refine (queueM_unique hn2 (fun j => ⟨fun hj => ?_, fun hj => ?_⟩) ((List.pairwise_cons.1 hso).2.imp fun h => lessK_settle h) (hs.settle i)).symm
 · obtain ⟨j0, q, h1, h2, h3⟩ := queueM_mine (show j ∈ queueM ps bank by rw [hq]; exact List.mem_cons_of_mem _ hj)
   have hne : j.toNat ≠ i.toNat := fun e => hn1 (by have : j = i := by omega
                                                    rw [← this]; exact hj)
   exact ⟨j0, q, by rw [settleP_at hst, if_neg hne]; exact h1, h2, h3⟩
 · obtain ⟨j0, q, h1, h2, h3⟩ := hj
   rw [settleP_at hst] at h1
   split at h1
   · simp at h1; subst h1; simp at h2
   · rename_i hne
     have : j ∈ queueM ps bank := queueM_all ⟨j0, q, h1, h2, h3⟩
     rw [hq] at this
     rcases List.mem_cons.1 this with e | h
     · exact absurd (by rw [e]) hne
     · exact h
theorem drain_xs (bank : Int) : ∀ (m : Nat) (c : H) (ps : List PayS) (ys xs : List Int), cnt ps = m → drain bank ⟨c, ps, ys ++ xs⟩ = ⟨(drain bank ⟨c, ps, xs⟩).c, (drain bank ⟨c, ps, xs⟩).ps, ys ++ (drain bank ⟨c, ps, xs⟩).xs⟩ := by
 intro m
 induction m using Nat.strongRecOn with
 | _ m ih =>
   intro c ps ys xs hm
   cases h : firstM c ps bank with
   | none => rw [drain_end (s := ⟨c, ps, ys ++ xs⟩) h, drain_end (s := ⟨c, ps, xs⟩) h]
   | some i =>
     rw [drain_go (s := ⟨c, ps, ys ++ xs⟩) h, drain_go (s := ⟨c, ps, xs⟩) h]
     obtain ⟨p, r, _, h1, _⟩ := firstM_spec h
     have hc := cnt_settle h1
     have := ih (cnt (settleP ps i)) (by omega) (settleC c ps i) (settleP ps i) ys (xs ++ [i]) rfl
     simp only [QS.go]
     rw [List.append_assoc]
     exact this
theorem drain_app (bank : Int) (c : H) (ps : List PayS) (ys : List Int) : drain bank ⟨c, ps, ys⟩ = ⟨(drain bank ⟨c, ps, []⟩).c, (drain bank ⟨c, ps, []⟩).ps, ys ++ (drain bank ⟨c, ps, []⟩).xs⟩ := by
 have := drain_xs bank _ c ps ys [] rfl
 rwa [List.append_nil] at this
theorem drain_keeps (bank : Int) : ∀ (m : Nat) (s : QS), cnt s.ps = m → SeqsApart s.ps → SeqsApart (drain bank s).ps ∧ (drain bank s).ps.length = s.ps.length := by
 intro m
 induction m using Nat.strongRecOn with
 | _ m ih =>
   intro s hm hs
   cases h : firstM s.c s.ps bank with
   | none => rw [drain_end h]; exact ⟨hs, rfl⟩
   | some i =>
     rw [drain_go h]
     obtain ⟨p, r, _, h1, _⟩ := firstM_spec h
     have hc := cnt_settle h1
     obtain ⟨e1, e2⟩ := ih (cnt (settleP s.ps i)) (by omega) (s.go i) rfl (hs.settle i)
     exact ⟨e1, e2.trans (settleP_len _ _)⟩
theorem pass_step {c : H} {ps : List PayS} (hg : goodB c ps = true) {k idle : Nat} {s : QS} (hk : k < 4) (hi : idle ≤ 4) (hs : sweepFrom k idle s = sweepM c ps) :
   ∃ idle', idle' ≤ 4 ∧ sweepFrom ((k + 1) % 4) idle' (drain k s) = sweepM c ps ∧ ((drain k s).xs.length = s.xs.length → idle' = 4 ∨ idle' = idle + 1) := by
 by_cases h4 : idle < 4
 · by_cases hx : (drain k s).xs.length = s.xs.length
   · exact ⟨idle + 1, by omega, by rw [← hs, sweep_idle h4 rfl hx], fun _ => .inr rfl⟩
   · exact ⟨0, by omega, by rw [← hs, sweep_busy h4 rfl hx], fun h => absurd h hx⟩
 · rw [sweep_end h4] at hs
   have hr := sweepM_rests hg k hk
   rw [← hs] at hr
   refine ⟨4, by omega, ?_, fun _ => .inl rfl⟩
   rw [drain_end hr, sweep_end (by omega)]
   exact hs
def cmpI (a b : Int) : Int := bif decide (a < b) then -1 else bif decide (b < a) then 1 else 0
def cmpP (p q : PayS) : Int := bif decide (cmpI p.cls q.cls = 0) then cmpI p.seq q.seq else cmpI p.cls q.cls
theorem cmpI_neg (a b : Int) : cmpI a b < 0 ↔ a < b := by
 unfold cmpI
 by_cases h1 : a < b
 · simp [h1]
 · by_cases h2 : b < a <;> simp [h1, h2]
theorem cmpI_zero (a b : Int) : cmpI a b = 0 ↔ a = b := by
 unfold cmpI
 by_cases h1 : a < b
 · simp [h1]; omega
 · by_cases h2 : b < a
   · simp [h1, h2]; omega
   · simp [h1, h2]; omega
theorem cmpP_neg (p q : PayS) : cmpP p q < 0 ↔ payLt p q := by
 unfold cmpP payLt
 by_cases h : cmpI p.cls q.cls = 0
 · have := (cmpI_zero _ _).1 h
   simp only [h, decide_true, cond_true, cmpI_neg]; omega
 · have h' : ¬ p.cls = q.cls := fun e => h ((cmpI_zero _ _).2 e)
   simp only [h, decide_false, cond_false, cmpI_neg]; omega
def waitTo (ps : List PayS) (bank : Int) : Nat → List Int
 | 0 => []
 | k + 1 => match ps[k]? with
   | some p => bif decide (p.src = bank) && decide (p.sta = 1) then waitTo ps bank k ++ [(k : Int)] else waitTo ps bank k
   | none => waitTo ps bank k
theorem wait_step {ps : List PayS} {bank : Int} {k : Nat} {p : PayS} (h : ps[k]? = some p) : waitTo ps bank (k + 1) = bif decide (p.src = bank) && decide (p.sta = 1) then waitTo ps bank k ++ [(k : Int)] else waitTo ps bank k := by
 simp only [waitTo, h]
theorem wait_len (ps : List PayS) (bank : Int) : ∀ k, (waitTo ps bank k).length ≤ k
 | 0 => by simp [waitTo]
 | k + 1 => by
   have := wait_len ps bank k
   unfold waitTo
   split
   · rename_i p _
     cases decide (p.src = bank) && decide (p.sta = 1)
     · simp only [cond_false]; omega
     · simp only [cond_true, List.length_append, List.length_cons, List.length_nil]; omega
   · omega
theorem wait_spec (ps : List PayS) (bank : Int) : ∀ k, (waitTo ps bank k).Nodup ∧ ∀ i, i ∈ waitTo ps bank k ↔ Mine ps bank i ∧ i < k
 | 0 => ⟨by simp [waitTo], fun i => ⟨fun h => by simp [waitTo] at h, fun ⟨h1, h2⟩ => by have := h1.1; omega⟩⟩
 | k + 1 => by
   obtain ⟨h1, h2⟩ := wait_spec ps bank k
   have hno : ∀ i, (∀ p, ps[k]? = some p → ¬ (p.src = bank ∧ p.sta = 1)) → ((Mine ps bank i ∧ i < k) ↔ (Mine ps bank i ∧ i < ((k + 1 : Nat) : Int))) := fun i hn =>
     ⟨fun ⟨a, b⟩ => ⟨a, by omega⟩, fun ⟨a, b⟩ => ⟨a, by
       obtain ⟨i0, p, hp, h3, h4⟩ := a
       rcases Int.lt_or_le i k with h | h
       · exact h
       · have e : i.toNat = k := by omega
         rw [e] at hp
         exact absurd ⟨h4, h3⟩ (hn p hp)⟩⟩
   cases hp : ps[k]? with
   | none =>
     have e : waitTo ps bank (k + 1) = waitTo ps bank k := by simp only [waitTo, hp]
     rw [e]
     exact ⟨h1, fun i => (h2 i).trans (hno i (fun p h => by rw [hp] at h; cases h))⟩
   | some p =>
     rw [wait_step hp]
     cases hc : decide (p.src = bank) && decide (p.sta = 1)
     · simp only [cond_false]
       refine ⟨h1, fun i => (h2 i).trans (hno i (fun q h => ?_))⟩
       rw [hp] at h; simp at h; subst h
       simpa using hc
     · simp only [cond_true]
       simp at hc
       refine ⟨?_, fun i => ?_⟩
       · rw [List.nodup_append]
         refine ⟨h1, by simp, fun a ha b hb e => ?_⟩
         simp at hb; subst hb; subst e
         have := ((h2 _).1 ha).2
         omega
       · rw [List.mem_append, h2]
         constructor
         · rintro (⟨a, b⟩ | h)
           · exact ⟨a, by omega⟩
           · simp at h; subst h
             exact ⟨⟨by omega, p, by simpa using hp, hc.2, hc.1⟩, by omega⟩
         · rintro ⟨a, b⟩
           by_cases e : i = k
           · exact .inr (by simp [e])
           · exact .inl ⟨a, by omega⟩
theorem wait_all (ps : List PayS) (bank : Int) (i : Int) : i ∈ waitTo ps bank ps.length ↔ Mine ps bank i := by
 rw [(wait_spec ps bank ps.length).2]
 exact ⟨fun h => h.1, fun h => ⟨h, by have := h.lt; omega⟩⟩
theorem sorted_queue {ps : List PayS} {bank : Int} {xs : List Int} (hs : SeqsApart ps) (hp : xs.Perm (waitTo ps bank ps.length)) (ho : xs.Pairwise fun i j => ¬ lessK ps j i) : xs = queueM ps bank := by
 have hn : xs.Nodup := hp.nodup_iff.2 (wait_spec ps bank ps.length).1
 have hm : ∀ i, i ∈ xs ↔ Mine ps bank i := fun i => (hp.mem_iff).trans (wait_all ps bank i)
 refine queueM_unique hn hm ?_ hs
 have h1 : xs.Pairwise fun i j => i ≠ j ∧ ¬ lessK ps j i := List.Pairwise.and hn ho
 exact List.Pairwise.imp_of_mem (fun {a b} ha hb hab => lessK_total hs ((hm a).1 ha) ((hm b).1 hb) hab.1 hab.2) h1
theorem wait_none {ps : List PayS} {bank : Int} (h : ¬ (0 ≤ bank ∧ bank < 4)) (hg : GoodPs ps) : queueM ps bank = [] := by
 cases hq : queueM ps bank with
 | nil => rfl
 | cons i r =>
   obtain ⟨_, p, hp, _, h2⟩ := queueM_mine (show i ∈ queueM ps bank by rw [hq]; simp)
   have := hg p (List.mem_of_getElem? hp)
   have ht := pay_transfer this
   exfalso
   apply h
   subst h2
   exact (transfer_lt ht).1
end Go.Proofs.Ytmkboljfbmlebac
namespace Go.Proofs.Ytmkboljfbmlebac
open Go.RowKit
set_option linter.unusedSimpArgs false
set_option linter.unusedVariables false
structure NearG (k : Int) (h : H) : Prop where
 near : Near k h
 cred : ∀ i : Int, 0 ≤ i ∧ i < 4 → 0 ≤ h.cred i ∧ h.cred i ≤ 1000000
 lim : ∀ i j : Int, 0 ≤ i ∧ i < 4 → 0 ≤ j ∧ j < 4 → -1 ≤ h.lim i j ∧ h.lim i j ≤ 1000000
theorem GoodH.nearG {h : H} (g : GoodH h) : NearG 0 h := ⟨g.near, g.cred, g.lim⟩
theorem NearG.core {k : Int} {h : H} (g : NearG k h) : NearG k h.core := ⟨⟨g.near.has, g.near.sent⟩, g.cred, g.lim⟩
theorem NearG.ofCore {k : Int} {h : H} (g : NearG k h.core) : NearG k h := ⟨⟨g.near.has, g.near.sent⟩, g.cred, g.lim⟩
theorem NearG.mono {k k' : Int} {h : H} (g : NearG k h) (hk : k ≤ k') : NearG k' h :=
 ⟨⟨fun i hi => by have := g.near.has i hi; omega, fun i j hi hj => by have := g.near.sent i j hi hj; omega⟩, g.cred, g.lim⟩
theorem may_near {h : H} {k : Int} (g : NearG k h) (hk : k ≤ 1000000) (a b n : Int) : mayM h a b n = maySendM h a b n := by
 unfold mayM maySendM
 cases ht : goodTransferB a b n
 · rfl
 · obtain ⟨ha, hb, hne, h1, h2⟩ := transfer_spec ht
   have e1 := g.near.has a ha
   have e2 := g.cred a ha
   have e3 := g.near.sent a b ha hb
   have e4 := g.near.sent b a hb ha
   have e5 := g.lim a b ha hb
   have l : leftM h a = h.has a + h.cred a := by
     unfold leftM
     rw [isBank_of ha]
     simp only [Bool.not_true, Bool.false_eq_true, if_false]
     exact wr_in (by omega) (by omega)
   have nn : netM h a b = h.sent a b - h.sent b a := by
     unfold netM
     rw [isBank_of ha, isBank_of hb]
     simp only [Bool.not_true, Bool.or_self, Bool.false_eq_true, if_false]
     exact wr_in (by omega) (by omega)
   rw [l, nn, wr_in (a := h.has a - n) (by omega) (by omega), wr_in (a := 0 - h.cred a) (by omega) (by omega), wr_in (a := h.sent a b - h.sent b a) (by omega) (by omega)]
   have d1 : decide (h.has a + h.cred a < n) = decide (h.has a - n < 0 - h.cred a) := by rw [Bool.eq_iff_iff]; simp; omega
   have d2 : decide (h.lim a b = -1) = decide (h.lim a b ≤ -1) := by rw [Bool.eq_iff_iff]; simp; omega
   rw [d1, d2]
theorem NearG.move {k : Int} {h : H} (g : NearG k h) (h0 : 0 ≤ k) (hk : k ≤ 1000000) {a b n : Int} (ht : goodTransferB a b n = true) : NearG (k + 1) (moveM h a b n) := by
 obtain ⟨ha, hb, hne, h1, h2⟩ := transfer_spec ht
 rw [move_at g.near hk ht]
 refine ⟨⟨fun i hi => ?_, fun i j hi hj => ?_⟩, g.cred, g.lim⟩
 · have e1 := g.near.has i hi
   have e2 := g.near.has a ha
   have e3 := g.near.has b hb
   simp only [up1]
   split
   · omega
   · split <;> omega
 · have e1 := g.near.sent i j hi hj
   have e2 := g.near.sent a b ha hb
   simp only [up2]
   split <;> omega
theorem NearG.settle {k : Int} {c : H} {ps : List PayS} (g : NearG k c) (h0 : 0 ≤ k) (hk : k ≤ 1000000) (hg : GoodPs ps) (n : Int) : NearG (k + 1) (settleC c ps n) := by
 unfold settleC
 split
 · rename_i p hs
   exact g.move h0 hk (pay_transfer (hg p (List.mem_of_getElem? (settles_spec hs).2.1)))
 · exact g.mono (by omega)
theorem drain_near (bank : Int) : ∀ (m : Nat) (s : QS) (k : Int), cnt s.ps = m → GoodPs s.ps → NearG k s.c → 0 ≤ k → k + m ≤ 1000000 → NearG (k + m - cnt (drain bank s).ps) (drain bank s).c ∧ GoodPs (drain bank s).ps := by
 intro m
 induction m using Nat.strongRecOn with
 | _ m ih =>
   intro s k hm hg hn h0 hk
   cases h : firstM s.c s.ps bank with
   | none => rw [drain_end h, hm]; exact ⟨hn.mono (by omega), hg⟩
   | some i =>
     rw [drain_go h]
     obtain ⟨p, r, _, h1, _⟩ := firstM_spec h
     have hc := cnt_settle h1
     have := ih (cnt (settleP s.ps i)) (by omega) (s.go i) (k + 1) rfl (settleP_good hg i) (hn.settle h0 (by omega) hg i) (by omega) (by omega)
     refine ⟨this.1.mono ?_, this.2⟩
     omega
end Go.Proofs.Ytmkboljfbmlebac
namespace Go.Proofs.Ytmkboljfbmlebac
open Go.RowKit
set_option linter.unusedSimpArgs false
set_option linter.unusedVariables false
theorem a4_true {p : Int → Bool} : a4 p = true ↔ ∀ i : Int, 0 ≤ i ∧ i < 4 → p i = true := by
 simp only [a4, Bool.and_eq_true]
 constructor
 · rintro ⟨⟨⟨h0, h1⟩, h2⟩, h3⟩ i ⟨a, b⟩
   have : i = 0 ∨ i = 1 ∨ i = 2 ∨ i = 3 := by omega
   rcases this with rfl | rfl | rfl | rfl <;> assumption
 · intro h
   exact ⟨⟨⟨h 0 (by omega), h 1 (by omega)⟩, h 2 (by omega)⟩, h 3 (by omega)⟩
def firsts (ps : List PayS) (n : Int → Int) (b : Int) : List Int := (queueM ps b).take (n b).toNat
def inS (ps : List PayS) (n : Int → Int) (d : Int) : Int := toS ps d (firsts ps n 0) + toS ps d (firsts ps n 1) + toS ps d (firsts ps n 2) + toS ps d (firsts ps n 3)
theorem queue_goodL {ps : List PayS} (hg : GoodPs ps) (b : Int) : GoodL ps b (queueM ps b) := fun i hi => by
 obtain ⟨_, p, hp, _, hs⟩ := queueM_mine hi
 exact ⟨p, hp, by rw [← hs]; exact pay_transfer (hg p (List.mem_of_getElem? hp))⟩
theorem GoodL.take {ps : List PayS} {b : Int} {xs : List Int} (h : GoodL ps b xs) (k : Nat) : GoodL ps b (xs.take k) := fun i hi => h i (List.mem_of_mem_take hi)
theorem queueM_len (ps : List PayS) (b : Int) : (queueM ps b).length ≤ ps.length := queueTo_len ps b ps.length
structure StandsAt (h : H) (ps : List PayS) (n : Int → Int) (x : H) : Prop where
 has : ∀ i : Int, 0 ≤ i ∧ i < 4 → x.has i = h.has i - outS ps (firsts ps n i) + inS ps n i
 sent : ∀ i j : Int, 0 ≤ i ∧ i < 4 → 0 ≤ j ∧ j < 4 → x.sent i j = h.sent i j + toS ps j (firsts ps n i)
 cred : x.cred = h.cred
 lim : x.lim = h.lim
 near : Near 96 x
theorem moves_spec {h : H} {ps : List PayS} (hg : goodB h ps = true) (n : Int → Int) : StandsAt h ps n (movesTo h ps n 4) := by
 obtain ⟨g1, _, g3⟩ := good_pays hg
 have gl : ∀ b : Int, GoodL ps b (firsts ps n b) := fun b => (queue_goodL g1 b).take _
 have ll : ∀ b : Int, (firsts ps n b).length ≤ 24 := fun b => by
   have := queueM_len ps b
   unfold firsts
   rw [List.length_take]; omega
 have h0 := moveQ_spec ps 0 (firsts ps n 0) h 0 (gl 0) (good_of hg).near (by omega) (by have := ll 0; omega)
 have e1 : movesTo h ps n 1 = moveQ ps 0 h (firsts ps n 0) := rfl
 rw [← e1] at h0
 obtain ⟨a1, a2, a3, a4, a5⟩ := h0
 have h1 := moveQ_spec ps 1 (firsts ps n 1) _ _ (gl 1) a5 (by omega) (by have := ll 0; have := ll 1; omega)
 have e2 : movesTo h ps n 2 = moveQ ps 1 (movesTo h ps n 1) (firsts ps n 1) := rfl
 rw [← e2] at h1
 obtain ⟨b1, b2, b3, b4, b5⟩ := h1
 have h2 := moveQ_spec ps 2 (firsts ps n 2) _ _ (gl 2) b5 (by omega) (by have := ll 0; have := ll 1; have := ll 2; omega)
 have e3 : movesTo h ps n 3 = moveQ ps 2 (movesTo h ps n 2) (firsts ps n 2) := rfl
 rw [← e3] at h2
 obtain ⟨c1, c2, c3, c4, c5⟩ := h2
 have h3 := moveQ_spec ps 3 (firsts ps n 3) _ _ (gl 3) c5 (by omega) (by have := ll 0; have := ll 1; have := ll 2; have := ll 3; omega)
 have e4 : movesTo h ps n 4 = moveQ ps 3 (movesTo h ps n 3) (firsts ps n 3) := rfl
 rw [← e4] at h3
 obtain ⟨d1, d2, d3, d4, d5⟩ := h3
 refine ⟨fun i hi => ?_, fun i j hi hj => ?_, by rw [d3, c3, b3, a3], by rw [d4, c4, b4, a4], ⟨fun i hi => ?_, fun i j hi hj => ?_⟩⟩
 · rw [d1 i hi, c1 i hi, b1 i hi, a1 i hi]
   unfold inS
   have : i = 0 ∨ i = 1 ∨ i = 2 ∨ i = 3 := by omega
   rcases this with rfl | rfl | rfl | rfl <;> simp <;> omega
 · rw [d2 i j hi hj, c2 i j hi hj, b2 i j hi hj, a2 i j hi hj]
   have : i = 0 ∨ i = 1 ∨ i = 2 ∨ i = 3 := by omega
   rcases this with rfl | rfl | rfl | rfl <;> simp
 · have := d5.has i hi
   have := ll 0; have := ll 1; have := ll 2; have := ll 3
   omega
 · have := d5.sent i j hi hj
   have := ll 0; have := ll 1; have := ll 2; have := ll 3
   omega
theorem ok_iff {x : H} (hn : Near 96 x) (hc : ∀ i : Int, 0 ≤ i ∧ i < 4 → 0 ≤ x.cred i ∧ x.cred i ≤ 1000000) {b : Int} (hb : 0 ≤ b ∧ b < 4) :
   okBank x b = true ↔ 0 ≤ x.has b + x.cred b ∧ ∀ t : Int, 0 ≤ t ∧ t < 4 → 0 ≤ x.lim b t → x.sent b t - x.sent t b ≤ x.lim b t := by
 have h1 := hn.has b hb
 have h2 := hc b hb
 unfold okBank
 rw [Bool.and_eq_true, a4_true, wr_in (by omega) (by omega)]
 simp only [Bool.not_eq_true', decide_eq_false_iff_not, Bool.and_eq_false_iff]
 constructor
 · rintro ⟨e1, e2⟩
   refine ⟨by omega, fun t ht hl => ?_⟩
   have h3 := hn.sent b t hb ht
   have h4 := hn.sent t b ht hb
   have := e2 t ht
   rw [wr_in (by omega) (by omega)] at this
   omega
 · rintro ⟨e1, e2⟩
   refine ⟨by omega, fun t ht => ?_⟩
   have h3 := hn.sent b t hb ht
   have h4 := hn.sent t b ht hb
   rw [wr_in (by omega) (by omega)]
   have := e2 t ht
   omega
structure Poss (h : H) (ps : List PayS) (n : Int → Int) : Prop where
 good : goodB h ps = true
 size : ∀ b : Int, 0 ≤ b ∧ b < 4 → 0 ≤ n b ∧ n b ≤ (queueM ps b).length
 left : ∀ b : Int, 0 ≤ b ∧ b < 4 → n b ≠ 0 → 0 ≤ h.has b - outS ps (firsts ps n b) + inS ps n b + h.cred b
 lim : ∀ b t : Int, 0 ≤ b ∧ b < 4 → 0 ≤ t ∧ t < 4 → n b ≠ 0 → 0 ≤ h.lim b t → h.sent b t + toS ps t (firsts ps n b) - (h.sent t b + toS ps b (firsts ps n t)) ≤ h.lim b t
theorem poss_iff {h : H} {ps : List PayS} {n : Int → Int} : togetherM h ps n = true ↔ Poss h ps n := by
 unfold togetherM
 rw [Bool.and_eq_true, Bool.and_eq_true, a4_true, a4_true]
 constructor
 · rintro ⟨⟨hg, hs⟩, ho⟩
   have st := moves_spec hg n
   have gh := good_of hg
   have key : ∀ b : Int, 0 ≤ b ∧ b < 4 → n b ≠ 0 → _ := fun b hb hn => (ok_iff st.near (fun i hi => by rw [st.cred]; exact gh.cred i hi) hb).1 (by
     have := ho b hb
     simpa [hn] using this)
   refine ⟨hg, fun b hb => within_iff.1 (hs b hb), fun b hb hn => ?_, fun b t hb ht hn hl => ?_⟩
   · have := (key b hb hn).1
     rw [st.has b hb, st.cred] at this; exact this
   · have := (key b hb hn).2 t ht
     rw [st.lim, st.sent b t hb ht, st.sent t b ht hb] at this
     exact this hl
 · rintro ⟨hg, hs, hl, hi⟩
   have st := moves_spec hg n
   have gh := good_of hg
   refine ⟨⟨hg, fun b hb => within_iff.2 (hs b hb)⟩, fun b hb => ?_⟩
   by_cases hn : n b = 0
   · simp [hn]
   · simp only [hn, decide_false, Bool.false_or]
     refine (ok_iff st.near (fun i hi => by rw [st.cred]; exact gh.cred i hi) hb).2 ⟨?_, fun t ht h0 => ?_⟩
     · rw [st.has b hb, st.cred]; exact hl b hb hn
     · rw [st.lim] at h0 ⊢
       rw [st.sent b t hb ht, st.sent t b ht hb]; exact hi b t hb ht hn h0
theorem in_mono {ps : List PayS} (hg : GoodPs ps) {n m : Int → Int} (hnm : ∀ b : Int, 0 ≤ b ∧ b < 4 → n b ≤ m b) (b d : Int) (hb : 0 ≤ b ∧ b < 4) : toS ps d (firsts ps n b) ≤ toS ps d (firsts ps m b) :=
 toS_take ps d (queueM ps b) (toOf_nonneg (queue_goodL hg b) d) _ _ (by have := hnm b hb; omega)
theorem inS_mono {ps : List PayS} (hg : GoodPs ps) {n m : Int → Int} (hnm : ∀ b : Int, 0 ≤ b ∧ b < 4 → n b ≤ m b) (d : Int) : inS ps n d ≤ inS ps m d := by
 have e0 := in_mono hg hnm 0 d (by omega)
 have e1 := in_mono hg hnm 1 d (by omega)
 have e2 := in_mono hg hnm 2 d (by omega)
 have e3 := in_mono hg hnm 3 d (by omega)
 unfold inS; omega
theorem Poss.lift {h : H} {ps : List PayS} {n m : Int → Int} (p : Poss h ps n) (hnm : ∀ b : Int, 0 ≤ b ∧ b < 4 → n b ≤ m b) {b : Int} (hb : 0 ≤ b ∧ b < 4) (he : m b = n b) (hn : n b ≠ 0) :
   0 ≤ h.has b - outS ps (firsts ps m b) + inS ps m b + h.cred b ∧ ∀ t : Int, 0 ≤ t ∧ t < 4 → 0 ≤ h.lim b t → h.sent b t + toS ps t (firsts ps m b) - (h.sent t b + toS ps b (firsts ps m t)) ≤ h.lim b t := by
 have g1 := (good_pays p.good).1
 have e : firsts ps m b = firsts ps n b := by unfold firsts; rw [he]
 rw [e]
 have e1 := p.left b hb hn
 have e2 := inS_mono g1 hnm b
 refine ⟨by omega, fun t ht hl => ?_⟩
 have e3 := p.lim b t hb ht hn hl
 have e4 := in_mono g1 hnm t b ht
 omega
def joinM (n m : Int → Int) : Int → Int := fun b => if n b < m b then m b else n b
theorem Poss.join {h : H} {ps : List PayS} {n m : Int → Int} (p : Poss h ps n) (q : Poss h ps m) : Poss h ps (joinM n m) := by
 have l1 : ∀ b : Int, 0 ≤ b ∧ b < 4 → n b ≤ joinM n m b := fun b _ => by unfold joinM; split <;> omega
 have l2 : ∀ b : Int, 0 ≤ b ∧ b < 4 → m b ≤ joinM n m b := fun b _ => by unfold joinM; split <;> omega
 have key : ∀ b : Int, 0 ≤ b ∧ b < 4 → joinM n m b ≠ 0 → _ := fun b hb hne => by
   by_cases hlt : n b < m b
   · have e : joinM n m b = m b := by simp only [joinM, if_pos hlt]
     exact q.lift l2 hb e (by rw [← e]; exact hne)
   · have e : joinM n m b = n b := by simp only [joinM, if_neg hlt]
     exact p.lift l1 hb e (by rw [← e]; exact hne)
 refine ⟨p.good, fun b hb => ?_, fun b hb hne => (key b hb hne).1, fun b t hb ht hne hl => (key b hb hne).2 t ht hl⟩
 have e1 := p.size b hb
 have e2 := q.size b hb
 unfold joinM; split <;> omega
theorem poss_zero {h : H} {ps : List PayS} (hg : goodB h ps = true) {n : Int → Int} (hn : ∀ b : Int, 0 ≤ b ∧ b < 4 → n b = 0) : Poss h ps n :=
 ⟨hg, fun b hb => by rw [hn b hb]; omega, fun b hb h => absurd (hn b hb) h, fun b t hb ht h => absurd (hn b hb) h⟩
structure IsMost (h : H) (ps : List PayS) (m : Int → Int) : Prop where
 poss : Poss h ps m
 most : ∀ n, Poss h ps n → ∀ b : Int, 0 ≤ b ∧ b < 4 → n b ≤ m b
theorem IsMost.unique {h : H} {ps : List PayS} {m m' : Int → Int} (a : IsMost h ps m) (a' : IsMost h ps m') (b : Int) (hb : 0 ≤ b ∧ b < 4) : m b = m' b := by
 have := a.most m' a'.poss b hb
 have := a'.most m a.poss b hb
 omega
theorem most_of_one {h : H} {ps : List PayS} (hg : goodB h ps = true) (b : Int) (hb : 0 ≤ b ∧ b < 4) : ∃ n, Poss h ps n ∧ ∀ n', Poss h ps n' → n' b ≤ n b := by
 have go : ∀ (k : Nat) (n : Int → Int), Poss h ps n → (queueM ps b).length - (n b).toNat ≤ k → ∃ n, Poss h ps n ∧ ∀ n', Poss h ps n' → n' b ≤ n b := by
   intro k
   induction k with
   | zero =>
     intro n p hk
     refine ⟨n, p, fun n' p' => ?_⟩
     have := p.size b hb
     have := p'.size b hb
     omega
   | succ k ih =>
     intro n p hk
     by_cases hex : ∃ n', Poss h ps n' ∧ n b < n' b
     · obtain ⟨n', p', hlt⟩ := hex
       have := p.size b hb
       exact ih n' p' (by omega)
     · exact ⟨n, p, fun n' p' => by
         rcases Int.lt_or_le (n b) (n' b) with h | h
         · exact absurd ⟨n', p', h⟩ hex
         · exact h⟩
 exact go _ (fun _ => 0) (poss_zero hg (fun _ _ => rfl)) (Nat.le_refl _)
theorem most_exists {h : H} {ps : List PayS} (hg : goodB h ps = true) : ∃ m, IsMost h ps m := by
 obtain ⟨n0, p0, m0⟩ := most_of_one hg 0 (by omega)
 obtain ⟨n1, p1, m1⟩ := most_of_one hg 1 (by omega)
 obtain ⟨n2, p2, m2⟩ := most_of_one hg 2 (by omega)
 obtain ⟨n3, p3, m3⟩ := most_of_one hg 3 (by omega)
 refine ⟨joinM (joinM n0 n1) (joinM n2 n3), (p0.join p1).join (p2.join p3), fun n p b hb => ?_⟩
 have : b = 0 ∨ b = 1 ∨ b = 2 ∨ b = 3 := by omega
 rcases this with rfl | rfl | rfl | rfl
 · have := m0 n p; unfold joinM; repeat' split
   all_goals omega
 · have := m1 n p; unfold joinM; repeat' split
   all_goals omega
 · have := m2 n p; unfold joinM; repeat' split
   all_goals omega
 · have := m3 n p; unfold joinM; repeat' split
   all_goals omega
noncomputable def mostM (h : H) (ps : List PayS) : Int → Int := if hg : goodB h ps = true then Classical.choose (most_exists hg) else fun _ => 0
theorem mostM_is {h : H} {ps : List PayS} (hg : goodB h ps = true) : IsMost h ps (mostM h ps) := by
 unfold mostM
 rw [dif_pos hg]
 exact Classical.choose_spec (most_exists hg)
theorem mostM_bad {h : H} {ps : List PayS} (hg : goodB h ps = false) : mostM h ps = fun _ => 0 := by
 unfold mostM
 rw [dif_neg (by rw [hg]; decide)]
theorem mostM_row {h : H} {ps : List PayS} {m : Int → Int} (a : IsMost h ps m) : rowA (mostM h ps) = rowA m := by
 have u := fun b hb => (mostM_is a.poss.good).unique a b hb
 unfold rowA
 exact sameq _ _ (fun i hi => by unfold rowC; rw [u i (by omega)])
noncomputable def untieXs (h : H) (ps : List PayS) : List Int := firsts ps (mostM h ps) 0 ++ firsts ps (mostM h ps) 1 ++ firsts ps (mostM h ps) 2 ++ firsts ps (mostM h ps) 3
noncomputable def untieM (h : H) (ps : List PayS) : QS := ⟨chainC h ps (untieXs h ps), chainP ps (untieXs h ps), untieXs h ps⟩
end Go.Proofs.Ytmkboljfbmlebac
namespace Go.Proofs.Ytmkboljfbmlebac
open Go.RowKit
set_option linter.unusedSimpArgs false
set_option linter.unusedVariables false
theorem firsts_congr {ps : List PayS} {n m : Int → Int} {b : Int} (h : n b = m b) : firsts ps n b = firsts ps m b := by unfold firsts; rw [h]
theorem inS_congr {ps : List PayS} {n m : Int → Int} (h : ∀ b : Int, 0 ≤ b ∧ b < 4 → n b = m b) (d : Int) : inS ps n d = inS ps m d := by
 unfold inS
 rw [firsts_congr (h 0 (by omega)), firsts_congr (h 1 (by omega)), firsts_congr (h 2 (by omega)), firsts_congr (h 3 (by omega))]
theorem Poss.congr {h : H} {ps : List PayS} {n m : Int → Int} (p : Poss h ps n) (e : ∀ b : Int, 0 ≤ b ∧ b < 4 → n b = m b) : Poss h ps m :=
 ⟨p.good, fun b hb => by rw [← e b hb]; exact p.size b hb, fun b hb hn => by
   rw [← firsts_congr (e b hb), ← inS_congr e]; exact p.left b hb (by rw [e b hb]; exact hn), fun b t hb ht hn hl => by
   rw [← firsts_congr (e b hb), ← firsts_congr (e t ht)]; exact p.lim b t hb ht (by rw [e b hb]; exact hn) hl⟩
theorem Poss.core {h : H} {ps : List PayS} {n : Int → Int} : Poss h.core ps n ↔ Poss h ps n := ⟨fun p => ⟨p.good, p.size, p.left, p.lim⟩, fun p => ⟨p.good, p.size, p.left, p.lim⟩⟩
def Bef (n' n : Int → Int) : Prop := n' 3 < n 3 ∨ (n' 3 = n 3 ∧ (n' 2 < n 2 ∨ (n' 2 = n 2 ∧ (n' 1 < n 1 ∨ (n' 1 = n 1 ∧ n' 0 < n 0)))))
def Same4 (n' n : Int → Int) : Prop := n' 0 = n 0 ∧ n' 1 = n 1 ∧ n' 2 = n 2 ∧ n' 3 = n 3
theorem Same4.all {n' n : Int → Int} (h : Same4 n' n) : ∀ b : Int, 0 ≤ b ∧ b < 4 → n' b = n b := by
 obtain ⟨h0, h1, h2, h3⟩ := h
 intro b hb
 have : b = 0 ∨ b = 1 ∨ b = 2 ∨ b = 3 := by omega
 rcases this with rfl | rfl | rfl | rfl <;> assumption
def qLen (ps : List PayS) (b : Int) : Int := (queueM ps b).length
structure Odo (h : H) (ps : List PayS) (n best : Int → Int) : Prop where
 size : ∀ b : Int, 0 ≤ b ∧ b < 4 → 0 ≤ n b ∧ n b ≤ qLen ps b
 poss : Poss h ps best
 seen : ∀ n', Poss h ps n' → Bef n' n → ∀ b : Int, 0 ≤ b ∧ b < 4 → n' b ≤ best b
structure Seen (h : H) (ps : List PayS) (n best : Int → Int) : Prop where
 poss : Poss h ps best
 seen : ∀ n', Poss h ps n' → Bef n' n ∨ Same4 n' n → ∀ b : Int, 0 ≤ b ∧ b < 4 → n' b ≤ best b
theorem Odo.no {h : H} {ps : List PayS} {n best : Int → Int} (o : Odo h ps n best) (ht : togetherM h ps n = false) : Seen h ps n best :=
 ⟨o.poss, fun n' p hb => hb.elim (o.seen n' p) fun e => by
   have := (poss_iff).2 (p.congr e.all)
   rw [ht] at this; cases this⟩
theorem Odo.less {h : H} {ps : List PayS} {n best : Int → Int} (o : Odo h ps n best) (hl : ∀ b : Int, 0 ≤ b ∧ b < 4 → n b ≤ best b) : Seen h ps n best :=
 ⟨o.poss, fun n' p hb => hb.elim (o.seen n' p) fun e b hb => by rw [e.all b hb]; exact hl b hb⟩
theorem Odo.yes {h : H} {ps : List PayS} {n best best' : Int → Int} (o : Odo h ps n best) (ht : togetherM h ps n = true) (hb : ∀ b : Int, 0 ≤ b ∧ b < 4 → best' b = joinM best n b) : Seen h ps n best' := by
 have pn := poss_iff.1 ht
 refine ⟨(o.poss.join pn).congr fun b h => (hb b h).symm, fun n' p hbs b h => ?_⟩
 rw [hb b h]
 rcases hbs with hbs | e
 · have := o.seen n' p hbs b h
   unfold joinM; split <;> omega
 · rw [e.all b h]
   unfold joinM; split <;> omega
theorem Seen.next {h : H} {ps : List PayS} {n best n2 : Int → Int} (o : Seen h ps n best) (hs : ∀ b : Int, 0 ≤ b ∧ b < 4 → 0 ≤ n b ∧ n b ≤ qLen ps b) (k : Int) (hk : 0 ≤ k ∧ k < 4) (hlo : ∀ b : Int, 0 ≤ b → b < k → n b = qLen ps b ∧ n2 b = 0) (hat : n k ≠ qLen ps k ∧ n2 k = n k + 1) (hhi : ∀ b : Int, k < b → b < 4 → n2 b = n b) :
   Odo h ps n2 best ∧ n 0 + 25 * n 1 + 625 * n 2 + 15625 * n 3 < n2 0 + 25 * n2 1 + 625 * n2 2 + 15625 * n2 3 := by
 have hg := (good_pays o.poss.good).2.2
 have l24 : ∀ b, qLen ps b ≤ 24 := fun b => by have := queueM_len ps b; unfold qLen; omega
 have s0 := hs 0 (by omega)
 have s1 := hs 1 (by omega)
 have s2 := hs 2 (by omega)
 have s3 := hs 3 (by omega)
 have t0 := l24 0
 have t1 := l24 1
 have t2 := l24 2
 have t3 := l24 3
 have hk4 : k = 0 ∨ k = 1 ∨ k = 2 ∨ k = 3 := by omega
 rcases hk4 with rfl | rfl | rfl | rfl
 · have a0 := hat
   have b1 := hhi 1 (by omega) (by omega)
   have b2 := hhi 2 (by omega) (by omega)
   have b3 := hhi 3 (by omega) (by omega)
   refine ⟨⟨fun b hb => ?_, o.poss, fun n' p hbe => o.seen n' p ?_⟩, by omega⟩
   · have : b = 0 ∨ b = 1 ∨ b = 2 ∨ b = 3 := by omega
     rcases this with rfl | rfl | rfl | rfl <;> omega
   · have p0 := p.size 0 (by omega)
     have p1 := p.size 1 (by omega)
     have p2 := p.size 2 (by omega)
     have p3 := p.size 3 (by omega)
     unfold qLen at *
     unfold Bef Same4 at *
     omega
 · have a0 := hlo 0 (by omega) (by omega)
   have b1 := hat
   have b2 := hhi 2 (by omega) (by omega)
   have b3 := hhi 3 (by omega) (by omega)
   refine ⟨⟨fun b hb => ?_, o.poss, fun n' p hbe => o.seen n' p ?_⟩, by omega⟩
   · have : b = 0 ∨ b = 1 ∨ b = 2 ∨ b = 3 := by omega
     rcases this with rfl | rfl | rfl | rfl <;> omega
   · have p0 := p.size 0 (by omega)
     have p1 := p.size 1 (by omega)
     have p2 := p.size 2 (by omega)
     have p3 := p.size 3 (by omega)
     unfold qLen at *
     unfold Bef Same4 at *
     omega
 · have a0 := hlo 0 (by omega) (by omega)
   have b1 := hlo 1 (by omega) (by omega)
   have b2 := hat
   have b3 := hhi 3 (by omega) (by omega)
   refine ⟨⟨fun b hb => ?_, o.poss, fun n' p hbe => o.seen n' p ?_⟩, by omega⟩
   · have : b = 0 ∨ b = 1 ∨ b = 2 ∨ b = 3 := by omega
     rcases this with rfl | rfl | rfl | rfl <;> omega
   · have p0 := p.size 0 (by omega)
     have p1 := p.size 1 (by omega)
     have p2 := p.size 2 (by omega)
     have p3 := p.size 3 (by omega)
     unfold qLen at *
     unfold Bef Same4 at *
     omega
 · have a0 := hlo 0 (by omega) (by omega)
   have b1 := hlo 1 (by omega) (by omega)
   have b2 := hlo 2 (by omega) (by omega)
   have b3 := hat
   refine ⟨⟨fun b hb => ?_, o.poss, fun n' p hbe => o.seen n' p ?_⟩, by omega⟩
   · have : b = 0 ∨ b = 1 ∨ b = 2 ∨ b = 3 := by omega
     rcases this with rfl | rfl | rfl | rfl <;> omega
   · have p0 := p.size 0 (by omega)
     have p1 := p.size 1 (by omega)
     have p2 := p.size 2 (by omega)
     have p3 := p.size 3 (by omega)
     unfold qLen at *
     unfold Bef Same4 at *
     omega
theorem Seen.most {h : H} {ps : List PayS} {n best : Int → Int} (o : Seen h ps n best) (he : ∀ b : Int, 0 ≤ b ∧ b < 4 → n b = qLen ps b) : IsMost h ps best := by
 refine ⟨o.poss, fun n' p => o.seen n' p ?_⟩
 have p0 := p.size 0 (by omega)
 have p1 := p.size 1 (by omega)
 have p2 := p.size 2 (by omega)
 have p3 := p.size 3 (by omega)
 have e0 := he 0 (by omega)
 have e1 := he 1 (by omega)
 have e2 := he 2 (by omega)
 have e3 := he 3 (by omega)
 unfold qLen at *
 unfold Bef Same4
 omega
theorem settlesOf {ps : List PayS} {n : Int} {p : PayS} (h0 : 0 ≤ n) (hp : ps[n.toNat]? = some p) (hs : p.sta = 1) : settles ps n = some p := by simp [settles, h0, hp, hs]
theorem firsts_mine {ps : List PayS} {n : Int → Int} {b i : Int} (h : i ∈ firsts ps n b) : Mine ps b i := queueM_mine (List.mem_of_mem_take h)
theorem Mine.same {ps : List PayS} {a b i : Int} (h : Mine ps a i) (h' : Mine ps b i) : a = b := by
 obtain ⟨_, p, hp, _, h1⟩ := h
 obtain ⟨_, q, hq, _, h2⟩ := h'
 rw [hp] at hq; simp at hq; subst hq
 omega
def allFirsts (ps : List PayS) (n : Int → Int) : List Int := firsts ps n 0 ++ firsts ps n 1 ++ firsts ps n 2 ++ firsts ps n 3
theorem firsts_nodup (ps : List PayS) (n : Int → Int) (b : Int) : (firsts ps n b).Nodup := (List.take_sublist _ _).nodup (queueM_nodup ps b)
theorem allFirsts_nodup (ps : List PayS) (n : Int → Int) : (allFirsts ps n).Nodup := by
 unfold allFirsts
 have ne : ∀ {a b i j : Int}, a ≠ b → i ∈ firsts ps n a → j ∈ firsts ps n b → i ≠ j := fun hab hi hj e => hab (by
   subst e; exact (firsts_mine hi).same (firsts_mine hj))
 simp only [List.nodup_append, List.mem_append]
 refine ⟨⟨⟨firsts_nodup _ _ _, firsts_nodup _ _ _, fun a ha b hb => ne (by omega) ha hb⟩, firsts_nodup _ _ _, ?_⟩, firsts_nodup _ _ _, ?_⟩
 · rintro a (ha | ha) b hb
   · exact ne (by omega) ha hb
   · exact ne (by omega) ha hb
 · rintro a ((ha | ha) | ha) b hb
   · exact ne (by omega) ha hb
   · exact ne (by omega) ha hb
   · exact ne (by omega) ha hb
theorem allFirsts_settles {ps : List PayS} {n : Int → Int} {i : Int} (h : i ∈ allFirsts ps n) : ∃ p, settles ps i = some p := by
 unfold allFirsts at h
 simp only [List.mem_append] at h
 have : ∃ b, i ∈ firsts ps n b := by
   rcases h with ((h | h) | h) | h
   · exact ⟨_, h⟩
   · exact ⟨_, h⟩
   · exact ⟨_, h⟩
   · exact ⟨_, h⟩
 obtain ⟨b, hb⟩ := this
 obtain ⟨p, hp, _⟩ := (firsts_mine hb).settles
 exact ⟨p, hp⟩
end Go.Proofs.Ytmkboljfbmlebac
namespace Go.Proofs.Ytmkboljfbmlebac
open Go.RowKit
set_option linter.unusedSimpArgs false
set_option linter.unusedVariables false
theorem goB_iff {nx : Int} : ∀ (ps : List PayS) (seen : List Int), goB nx seen ps = true ↔ (∀ p ∈ ps, goodPayB p = true ∧ p.seq < nx ∧ p.seq ∉ seen) ∧ (ps.map PayS.seq).Nodup
 | [], seen => by simp [goB]
 | x :: r, seen => by
   have ih := goB_iff (nx := nx) r (seen ++ [x.seq])
   simp only [goB]
   cases hb : (!goodPayB x || decide (nx ≤ x.seq) || decide (x.seq ∈ seen))
   · simp only [cond_false]
     simp only [Bool.or_eq_false_iff, Bool.not_eq_false', decide_eq_false_iff_not] at hb
     rw [ih]
     simp only [List.mem_append, List.mem_singleton, not_or, List.map_cons, List.nodup_cons, List.mem_map, not_exists, not_and, List.mem_cons, forall_eq_or_imp]
     constructor
     · rintro ⟨h1, h2⟩
       exact ⟨⟨⟨hb.1.1, by omega, hb.2⟩, fun p hp => ⟨(h1 p hp).1, (h1 p hp).2.1, (h1 p hp).2.2.1⟩⟩, fun p hp => (h1 p hp).2.2.2.1, h2⟩
     · rintro ⟨⟨_, h1⟩, h2, h3⟩
       exact ⟨fun p hp => ⟨(h1 p hp).1, (h1 p hp).2.1, (h1 p hp).2.2, h2 p hp, by simp⟩, h3⟩
   · simp only [cond_true, Bool.false_eq_true, false_iff]
     rintro ⟨h1, _⟩
     obtain ⟨a, b, c⟩ := h1 x (by simp)
     have hb' : ¬ (nx ≤ x.seq) := by omega
     simp [a, hb', c] at hb
theorem goodH_iff {h : H} : (accGoodB h.has h.cred && sentGoodB h.sent && limGoodB h.lim) = true ↔ GoodH h := by
 unfold accGoodB sentGoodB limGoodB
 simp only [Bool.and_eq_true, a4_true, within_iff, decide_eq_true_eq]
 constructor
 · rintro ⟨⟨h1, h2⟩, h3⟩
   exact ⟨fun i hi => (h1 i hi).1, fun i hi => (h1 i hi).2, fun i hi => (h2 i hi).1, fun i k hi hk => (h2 i hi).2 k hk, fun i k hi hk => h3 i hi k hk⟩
 · intro g
   exact ⟨⟨fun i hi => ⟨g.has i hi, g.cred i hi⟩, fun i hi => ⟨g.diag i hi, fun k hk => g.sent i k hi hk⟩⟩, fun i hi k hk => g.lim i k hi hk⟩
structure GoodAll (h : H) (ps : List PayS) : Prop where
 next : 0 ≤ h.next ∧ h.next ≤ 1048576
 len : ps.length ≤ 24
 pays : ∀ p ∈ ps, goodPayB p = true ∧ p.seq < h.next
 seqs : (ps.map PayS.seq).Nodup
 house : GoodH h
theorem good_iff {h : H} {ps : List PayS} : goodB h ps = true ↔ GoodAll h ps := by
 have e : goodB h ps = (withinB h.next 0 1048576 && goodPaysB ps h.next && (accGoodB h.has h.cred && sentGoodB h.sent && limGoodB h.lim)) := by
   unfold goodB; simp only [Bool.and_assoc]
 rw [e, Bool.and_eq_true, Bool.and_eq_true, goodH_iff, within_iff]
 unfold goodPaysB
 by_cases hl : ps.length ≤ 24
 · have hl' : decide (24 < (ps.length : Int)) = false := decide_eq_false (by omega)
   rw [hl', cond_false, goB_iff]
   constructor
   · rintro ⟨⟨h1, h2, h3⟩, h4⟩
     exact ⟨h1, hl, fun p hp => ⟨(h2 p hp).1, (h2 p hp).2.1⟩, h3, h4⟩
   · rintro ⟨h1, _, h2, h3, h4⟩
     exact ⟨⟨h1, fun p hp => ⟨(h2 p hp).1, (h2 p hp).2, by simp⟩, h3⟩, h4⟩
 · have hl' : decide (24 < (ps.length : Int)) = true := decide_eq_true (by omega)
   rw [hl', cond_true]
   constructor
   · rintro ⟨⟨_, h⟩, _⟩; cases h
   · rintro ⟨_, h, _⟩; exact absurd h hl
structure NR where
 c : H
 ps : List PayS
 code : Int
 n : Int
 done : List Int
def errN (c : H) (ps : List PayS) (e : Int) : NR := ⟨c, ps, e, 0, []⟩
def sweepN (c : H) (ps : List PayS) (n : Int) (d : List Int) : NR := ⟨(sweepM c ps).c, (sweepM c ps).ps, 0, n, d ++ (sweepM c ps).xs⟩
def waitsB (ps : List PayS) (n : Int) : Bool := (settles ps n).isSome
def newPay (c : H) (a : ActS) : PayS := ⟨a.a, a.b, a.n, a.c, 1, c.next⟩
def goneP (p : PayS) : PayS := bif decide (p.sta = 1) then { p with sta := 3 } else p
noncomputable def nextM (c : H) (ps : List PayS) (a : ActS) : NR :=
 bif !goodB c ps then errN c ps 1
 else bif decide (a.kind = 1) then
   bif !goodPayB (newPay c a) then errN c ps 3 else bif decide (ps.length = 24) || decide (c.next = 1048576) then errN c ps 5
   else sweepN { c with next := c.next + 1 } (ps ++ [newPay c a]) ps.length []
 else bif decide (a.kind = 2) || decide (a.kind = 3) then
   match settles ps a.a with
   | none => errN c ps 4
   | some p => bif decide (a.kind = 2) then sweepN c (ps.set a.a.toNat { p with sta := 3 }) 0 []
     else bif !withinB a.c 0 2 then errN c ps 3 else bif decide (c.next = 1048576) then errN c ps 5
     else sweepN { c with next := c.next + 1 } (ps.set a.a.toNat { p with cls := a.c, seq := c.next }) 0 []
 else bif decide (a.kind = 4) then
   bif !withinB a.a 0 3 || !withinB a.n 0 1000000 then errN c ps 3 else sweepN { c with cred := up1 c.cred a.a a.n } ps 0 []
 else bif decide (a.kind = 5) then
   bif !withinB a.a 0 3 || !withinB a.b 0 3 || decide (a.a = a.b) || !withinB a.n (-1) 1000000 then errN c ps 3 else sweepN { c with lim := up2 c.lim a.a a.b a.n } ps 0 []
 else bif decide (a.kind = 6) then
   bif !withinB a.a 0 3 || !withinB a.n 1 1000000 then errN c ps 3 else bif decide (549755813888 ≤ c.has a.a) then errN c ps 5
   else sweepN { c with has := up1 c.has a.a (c.has a.a + a.n) } ps 0 []
 else bif decide (a.kind = 7) then
   bif !withinB a.a 0 3 || !withinB a.n 1 1000000 then errN c ps 3 else bif decide (c.has a.a + c.cred a.a < a.n) then errN c ps 6
   else sweepN { c with has := up1 c.has a.a (c.has a.a - a.n) } ps 0 []
 else bif decide (a.kind = 8) then sweepN (untieM c ps).c (untieM c ps).ps (untieM c ps).xs.length (untieM c ps).xs
 else bif decide (a.kind = 9) then ⟨c, ps.map goneP, 0, cnt ps, []⟩
 else errN c ps 2
def doneT (p : PayS) (i j : Int) : Int := if p.sta = 2 ∧ p.src = i ∧ p.dst = j then p.amt else 0
def doneS : List PayS → Int → Int → Int
 | [], _, _ => 0
 | p :: r, i, j => doneT p i j + doneS r i j
theorem doneS_set : ∀ (ps : List PayS) (k : Nat) (p q : PayS) (i j : Int), ps[k]? = some p → doneS (ps.set k q) i j = doneS ps i j - doneT p i j + doneT q i j
 | [], k, p, q, i, j, h => by simp at h
 | x :: r, 0, p, q, i, j, h => by simp at h; subst h; simp only [List.set_cons_zero, doneS]; omega
 | x :: r, k + 1, p, q, i, j, h => by
   simp at h
   simp only [List.set_cons_succ, doneS]
   rw [doneS_set r k p q i j h]; omega
theorem doneS_append : ∀ (ps qs : List PayS) (i j : Int), doneS (ps ++ qs) i j = doneS ps i j + doneS qs i j
 | [], qs, i, j => by simp [doneS]
 | x :: r, qs, i, j => by simp only [List.cons_append, doneS]; rw [doneS_append r]; omega
theorem doneS_map (f : PayS → PayS) (hf : ∀ p i j, doneT (f p) i j = doneT p i j) : ∀ (ps : List PayS) (i j : Int), doneS (ps.map f) i j = doneS ps i j
 | [], _, _ => rfl
 | x :: r, i, j => by simp only [List.map_cons, doneS]; rw [hf, doneS_map f hf r]
theorem doneT_range {p : PayS} (h : goodPayB p = true) (i j : Int) : 0 ≤ doneT p i j ∧ doneT p i j ≤ 1000000 := by
 have := (transfer_spec (pay_transfer h)).2.2.2
 unfold doneT; split <;> omega
theorem doneS_range : ∀ (ps : List PayS), (∀ p ∈ ps, goodPayB p = true) → ∀ i j : Int, 0 ≤ doneS ps i j ∧ doneS ps i j ≤ 1000000 * ps.length
 | [], _, i, j => by simp [doneS]
 | x :: r, h, i, j => by
   have h1 := doneT_range (h x (by simp)) i j
   have h2 := doneS_range r (fun p hp => h p (by simp [hp])) i j
   simp only [doneS, List.length_cons]
   omega
theorem doneS_diag : ∀ (ps : List PayS), (∀ p ∈ ps, goodPayB p = true) → ∀ i : Int, doneS ps i i = 0
 | [], _, _ => rfl
 | x :: r, h, i => by
   have hne := (transfer_spec (pay_transfer (h x (by simp)))).2.2.1
   have e : doneT x i i = 0 := by
     unfold doneT
     rw [if_neg]
     rintro ⟨_, h1, h2⟩; omega
   simp only [doneS]
   rw [e, doneS_diag r (fun p hp => h p (by simp [hp]))]; rfl
def outT (c : H) (i : Int) : Int := c.sent i 0 + c.sent i 1 + c.sent i 2 + c.sent i 3
def inT (c : H) (i : Int) : Int := c.sent 0 i + c.sent 1 i + c.sent 2 i + c.sent 3 i
structure Inv (k : Int) (c : H) (ps : List PayS) : Prop where
 len : ps.length ≤ 24
 pays : ∀ p ∈ ps, goodPayB p = true ∧ p.seq < c.next
 seqs : (ps.map PayS.seq).Nodup
 next : 0 ≤ c.next ∧ c.next ≤ k
 cred : ∀ i : Int, 0 ≤ i ∧ i < 4 → 0 ≤ c.cred i ∧ c.cred i ≤ 1000000
 lim : ∀ i j : Int, 0 ≤ i ∧ i < 4 → 0 ≤ j ∧ j < 4 → -1 ≤ c.lim i j ∧ c.lim i j ≤ 1000000
 sums : ∀ i j : Int, 0 ≤ i ∧ i < 4 → 0 ≤ j ∧ j < 4 → c.sent i j = doneS ps i j
 ext : ∀ i : Int, 0 ≤ i ∧ i < 4 → -(k * 1000000) ≤ c.has i + outT c i - inT c i ∧ c.has i + outT c i - inT c i ≤ k * 1000000
theorem Inv.goodPs {k : Int} {c : H} {ps : List PayS} (v : Inv k c ps) : GoodPs ps := fun p hp => (v.pays p hp).1
theorem Inv.sentR {k : Int} {c : H} {ps : List PayS} (v : Inv k c ps) (i j : Int) (hi : 0 ≤ i ∧ i < 4) (hj : 0 ≤ j ∧ j < 4) : 0 ≤ c.sent i j ∧ c.sent i j ≤ 24000000 := by
 rw [v.sums i j hi hj]
 have := doneS_range ps v.goodPs i j
 have := v.len
 omega
theorem Inv.house {k : Int} {c : H} {ps : List PayS} (v : Inv k c ps) (hk : k ≤ 1000) : GoodH c := by
 refine ⟨fun i hi => ?_, v.cred, fun i hi => by rw [v.sums i i hi hi]; exact doneS_diag ps v.goodPs i, fun i j hi hj => by have := v.sentR i j hi hj; omega, v.lim⟩
 have e := v.ext i hi
 have a0 := v.sentR i 0 hi (by omega)
 have a1 := v.sentR i 1 hi (by omega)
 have a2 := v.sentR i 2 hi (by omega)
 have a3 := v.sentR i 3 hi (by omega)
 have b0 := v.sentR 0 i (by omega) hi
 have b1 := v.sentR 1 i (by omega) hi
 have b2 := v.sentR 2 i (by omega) hi
 have b3 := v.sentR 3 i (by omega) hi
 unfold outT inT at e
 omega
theorem Inv.good {k : Int} {c : H} {ps : List PayS} (v : Inv k c ps) (hk : k ≤ 1000) : goodB c ps = true :=
 good_iff.2 ⟨by have := v.next; omega, v.len, v.pays, v.seqs, v.house hk⟩
theorem Inv.mono {k k' : Int} {c : H} {ps : List PayS} (v : Inv k c ps) (hk : k ≤ k') : Inv k' c ps :=
 { v with next := by have := v.next; omega, ext := fun i hi => by have := v.ext i hi; omega }
theorem settleP_seqs (ps : List PayS) (n : Int) : (settleP ps n).map PayS.seq = ps.map PayS.seq := by
 unfold settleP
 split
 · rename_i p hs
   obtain ⟨_, hp, _⟩ := settles_spec hs
   rw [List.map_set]
   apply List.ext_getElem?
   intro j
   rw [List.getElem?_set]
   split
   · rename_i e
     subst e
     split
     · rw [List.getElem?_map, hp]; rfl
     · rename_i hlt
       rw [List.getElem?_eq_none (by omega)]
   · rfl
 · rfl
theorem settleC_next (c : H) (ps : List PayS) (n : Int) : (settleC c ps n).next = c.next ∧ (settleC c ps n).cred = c.cred ∧ (settleC c ps n).lim = c.lim := by
 unfold settleC moveM
 split
 · split <;> exact ⟨rfl, rfl, rfl⟩
 · exact ⟨rfl, rfl, rfl⟩
theorem Inv.settle {k : Int} {c : H} {ps : List PayS} (v : Inv k c ps) (hk : k ≤ 1000) (n : Int) : Inv k (settleC c ps n) (settleP ps n) := by
 cases hs : settles ps n with
 | none => simp only [settleC, settleP, hs]; exact v
 | some p =>
   obtain ⟨n0, hp, hsta⟩ := settles_spec hs
   have hgp := v.goodPs p (List.mem_of_getElem? hp)
   have ht := pay_transfer hgp
   obtain ⟨ha, hb, hne, h1, h2⟩ := transfer_spec ht
   have hm := move_at (v.house hk).near (by omega) ht
   have ec : settleC c ps n = moveM c p.src p.dst p.amt := by simp only [settleC, hs]
   obtain ⟨e1, e2, e3⟩ := settleC_next c ps n
   have ep : settleP ps n = ps.set n.toNat { p with sta := 2 } := by simp only [settleP, hs]
   have es : ∀ i j : Int, (settleC c ps n).sent i j = c.sent i j + (if i = p.src ∧ j = p.dst then p.amt else 0) := fun i j => by
     rw [ec, hm]
     simp only [up2]
     split
     · rename_i e; obtain ⟨rfl, rfl⟩ := e; simp
     · simp
   have eh : ∀ i : Int, (settleC c ps n).has i = c.has i - (if i = p.src then p.amt else 0) + (if i = p.dst then p.amt else 0) := fun i => by
     rw [ec, hm]
     simp only [up1]
     by_cases h1 : i = p.dst
     · have h2 : ¬ i = p.src := fun e => hne (by rw [← e, h1])
       rw [if_pos h1, if_neg h2, if_pos h1, h1]; omega
     · rw [if_neg h1, if_neg h1]
       by_cases h2 : i = p.src
       · rw [if_pos h2, if_pos h2, h2]; omega
       · rw [if_neg h2, if_neg h2]; omega
   refine ⟨by rw [settleP_len]; exact v.len, fun q hq => ?_, by rw [settleP_seqs]; exact v.seqs, by rw [e1]; exact v.next, by rw [e2]; exact v.cred, by rw [e3]; exact v.lim, fun i j hi hj => ?_, fun i hi => ?_⟩
   · rw [e1]
     rw [ep] at hq
     refine ⟨settleP_good v.goodPs n q (by rw [ep]; exact hq), ?_⟩
     rcases List.mem_or_eq_of_mem_set hq with hq | rfl
     · exact (v.pays q hq).2
     · exact (v.pays p (List.mem_of_getElem? hp)).2
   · rw [es, v.sums i j hi hj, ep, doneS_set _ _ _ _ _ _ hp]
     have t1 : doneT p i j = 0 := by unfold doneT; rw [if_neg]; rintro ⟨h, _⟩; omega
     have t2 : doneT { p with sta := 2 } i j = if i = p.src ∧ j = p.dst then p.amt else 0 := by
       unfold doneT
       simp only
       by_cases h : i = p.src ∧ j = p.dst
       · rw [if_pos h, if_pos ⟨trivial, h.1.symm, h.2.symm⟩]
       · rw [if_neg h, if_neg]; rintro ⟨_, h1, h2⟩; exact h ⟨h1.symm, h2.symm⟩
     rw [t1, t2]; omega
   · have := v.ext i hi
     unfold outT inT at *
     simp only [es, eh]
     have hs4 : p.src = 0 ∨ p.src = 1 ∨ p.src = 2 ∨ p.src = 3 := by omega
     have hd4 : p.dst = 0 ∨ p.dst = 1 ∨ p.dst = 2 ∨ p.dst = 3 := by omega
     have hi4 : i = 0 ∨ i = 1 ∨ i = 2 ∨ i = 3 := by omega
     rcases hs4 with e | e | e | e <;> rcases hd4 with f | f | f | f <;> rcases hi4 with rfl | rfl | rfl | rfl <;> simp only [e, f] at * <;> simp <;> omega
theorem Inv.chain {k : Int} (hk : k ≤ 1000) : ∀ (xs : List Int) {c : H} {ps : List PayS}, Inv k c ps → Inv k (chainC c ps xs) (chainP ps xs)
 | [], _, _, v => v
 | i :: r, _, _, v => Inv.chain hk r (v.settle hk i)
theorem Inv.sweep {k : Int} {c : H} {ps : List PayS} (v : Inv k c ps) (hk : k ≤ 1000) : Inv k (sweepM c ps).c (sweepM c ps).ps := by
 obtain ⟨_, h2, h3⟩ := sweepM_goes (v.good hk)
 rw [h2, h3]; exact v.chain hk _
theorem Inv.untie {k : Int} {c : H} {ps : List PayS} (v : Inv k c ps) (hk : k ≤ 1000) : Inv k (untieM c ps).c (untieM c ps).ps := v.chain hk _
end Go.Proofs.Ytmkboljfbmlebac
namespace Go.Proofs.Ytmkboljfbmlebac
open Go.RowKit
set_option linter.unusedSimpArgs false
set_option linter.unusedVariables false
inductive Mid (c : H) (ps : List PayS) (a : ActS) : H → List PayS → Int → List Int → Prop
 | pay (h1 : a.kind = 1) (hp : goodPayB (newPay c a) = true) (hl : ps.length ≠ 24) (hn : c.next ≠ 1048576) : Mid c ps a { c with next := c.next + 1 } (ps ++ [newPay c a]) ps.length []
 | gone (p : PayS) (h1 : a.kind = 2) (hs : settles ps a.a = some p) : Mid c ps a c (ps.set a.a.toNat { p with sta := 3 }) 0 []
 | cls (p : PayS) (h1 : a.kind = 3) (hs : settles ps a.a = some p) (hc : 0 ≤ a.c ∧ a.c ≤ 2) (hn : c.next ≠ 1048576) : Mid c ps a { c with next := c.next + 1 } (ps.set a.a.toNat { p with cls := a.c, seq := c.next }) 0 []
 | cred (h1 : a.kind = 4) (ha : 0 ≤ a.a ∧ a.a ≤ 3) (hn : 0 ≤ a.n ∧ a.n ≤ 1000000) : Mid c ps a { c with cred := up1 c.cred a.a a.n } ps 0 []
 | lim (h1 : a.kind = 5) (ha : 0 ≤ a.a ∧ a.a ≤ 3) (hb : 0 ≤ a.b ∧ a.b ≤ 3) (hne : a.a ≠ a.b) (hn : -1 ≤ a.n ∧ a.n ≤ 1000000) : Mid c ps a { c with lim := up2 c.lim a.a a.b a.n } ps 0 []
 | fund (h1 : a.kind = 6) (ha : 0 ≤ a.a ∧ a.a ≤ 3) (hn : 1 ≤ a.n ∧ a.n ≤ 1000000) : Mid c ps a { c with has := up1 c.has a.a (c.has a.a + a.n) } ps 0 []
 | spend (h1 : a.kind = 7) (ha : 0 ≤ a.a ∧ a.a ≤ 3) (hn : 1 ≤ a.n ∧ a.n ≤ 1000000) (hl : a.n ≤ c.has a.a + c.cred a.a) : Mid c ps a { c with has := up1 c.has a.a (c.has a.a - a.n) } ps 0 []
 | untie (h1 : a.kind = 8) : Mid c ps a (untieM c ps).c (untieM c ps).ps (untieM c ps).xs.length (untieM c ps).xs
inductive Step (c : H) (ps : List PayS) (a : ActS) : NR → Prop
 | err (e : Int) (he : e ≠ 0) : Step c ps a (errN c ps e)
 | close (h1 : a.kind = 9) : Step c ps a ⟨c, ps.map goneP, 0, cnt ps, []⟩
 | mid {c1 : H} {ps1 : List PayS} {n : Int} {d : List Int} (m : Mid c ps a c1 ps1 n d) : Step c ps a (sweepN c1 ps1 n d)
theorem next_step (c : H) (ps : List PayS) (a : ActS) : Step c ps a (nextM c ps a) := by
 unfold nextM
 cases hg : goodB c ps
 · simp only [Bool.not_false, cond_true]; exact .err 1 (by decide)
 simp only [Bool.not_true, cond_false]
 cases k1 : decide (a.kind = 1)
 case true =>
   simp only [cond_true]
   cases hp : goodPayB (newPay c a)
   · simp only [Bool.not_false, cond_true]; exact .err 3 (by decide)
   simp only [Bool.not_true, cond_false]
   cases hf : (decide (ps.length = 24) || decide (c.next = 1048576))
   · simp only [cond_false]
     simp only [Bool.or_eq_false_iff, decide_eq_false_iff_not] at hf
     exact .mid (.pay (of_decide_eq_true k1) hp hf.1 hf.2)
   · simp only [cond_true]; exact .err 5 (by decide)
 simp only [cond_false]
 cases k2 : decide (a.kind = 2)
 case true =>
   simp only [Bool.true_or, cond_true]
   split
   · exact .err 4 (by decide)
   · rename_i p hs
     exact .mid (.gone p (of_decide_eq_true k2) hs)
 cases k3 : decide (a.kind = 3)
 case true =>
   simp only [Bool.or_true, cond_true, cond_false]
   split
   · exact .err 4 (by decide)
   · rename_i p hs
     cases hc : withinB a.c 0 2
     · simp only [Bool.not_false, cond_true]; exact .err 3 (by decide)
     simp only [Bool.not_true, cond_false]
     cases hn : decide (c.next = 1048576)
     · simp only [cond_false]; exact .mid (.cls p (of_decide_eq_true k3) hs (within_iff.1 hc) (of_decide_eq_false hn))
     · simp only [cond_true]; exact .err 5 (by decide)
 simp only [Bool.or_self, cond_false]
 cases k4 : decide (a.kind = 4)
 case true =>
   simp only [cond_true]
   cases h1 : withinB a.a 0 3
   · simp only [Bool.not_false, Bool.true_or, cond_true]; exact .err 3 (by decide)
   cases h2 : withinB a.n 0 1000000
   · simp only [Bool.not_false, Bool.or_true, cond_true]; exact .err 3 (by decide)
   simp only [Bool.not_true, Bool.or_self, cond_false]
   exact .mid (.cred (of_decide_eq_true k4) (within_iff.1 h1) (within_iff.1 h2))
 simp only [cond_false]
 cases k5 : decide (a.kind = 5)
 case true =>
   simp only [cond_true]
   cases hb : (!withinB a.a 0 3 || !withinB a.b 0 3 || decide (a.a = a.b) || !withinB a.n (-1) 1000000)
   · simp only [cond_false]
     simp only [Bool.or_eq_false_iff, Bool.not_eq_false', decide_eq_false_iff_not] at hb
     exact .mid (.lim (of_decide_eq_true k5) (within_iff.1 hb.1.1.1) (within_iff.1 hb.1.1.2) hb.1.2 (within_iff.1 hb.2))
   · simp only [cond_true]; exact .err 3 (by decide)
 simp only [cond_false]
 cases k6 : decide (a.kind = 6)
 case true =>
   simp only [cond_true]
   cases hb : (!withinB a.a 0 3 || !withinB a.n 1 1000000)
   · simp only [cond_false]
     simp only [Bool.or_eq_false_iff, Bool.not_eq_false'] at hb
     cases hf : decide (549755813888 ≤ c.has a.a)
     · simp only [cond_false]; exact .mid (.fund (of_decide_eq_true k6) (within_iff.1 hb.1) (within_iff.1 hb.2))
     · simp only [cond_true]; exact .err 5 (by decide)
   · simp only [cond_true]; exact .err 3 (by decide)
 simp only [cond_false]
 cases k7 : decide (a.kind = 7)
 case true =>
   simp only [cond_true]
   cases hb : (!withinB a.a 0 3 || !withinB a.n 1 1000000)
   · simp only [cond_false]
     simp only [Bool.or_eq_false_iff, Bool.not_eq_false'] at hb
     cases hf : decide (c.has a.a + c.cred a.a < a.n)
     · simp only [cond_false]; exact .mid (.spend (of_decide_eq_true k7) (within_iff.1 hb.1) (within_iff.1 hb.2) (by have := of_decide_eq_false hf; omega))
     · simp only [cond_true]; exact .err 6 (by decide)
   · simp only [cond_true]; exact .err 3 (by decide)
 simp only [cond_false]
 cases k8 : decide (a.kind = 8)
 case true => simp only [cond_true]; exact .mid (.untie (of_decide_eq_true k8))
 simp only [cond_false]
 cases k9 : decide (a.kind = 9)
 case true => simp only [cond_true]; exact .close (of_decide_eq_true k9)
 simp only [cond_false]
 exact .err 2 (by decide)
theorem nodup_set {l : List Int} {k : Nat} {x : Int} (h : l.Nodup) (hx : x ∉ l) : (l.set k x).Nodup := by
 induction l generalizing k with
 | nil => simp
 | cons y r ih =>
   obtain ⟨h1, h2⟩ := List.nodup_cons.1 h
   simp only [List.mem_cons, not_or] at hx
   cases k with
   | zero => simp only [List.set_cons_zero, List.nodup_cons]; exact ⟨hx.2, h2⟩
   | succ k =>
     simp only [List.set_cons_succ, List.nodup_cons]
     refine ⟨fun hm => ?_, ih h2 hx.2⟩
     rcases List.mem_or_eq_of_mem_set hm with hm | e
     · exact h1 hm
     · exact hx.1 e.symm
theorem goneP_good {p : PayS} (h : goodPayB p = true) : goodPayB (goneP p) = true := by
 unfold goneP
 cases hs : decide (p.sta = 1)
 · exact h
 · simp only [cond_true]
   simp only [goodPayB, goodStateB, Bool.and_eq_true] at h ⊢
   exact ⟨⟨h.1.1, by simp⟩, h.2⟩
theorem goneP_seq (p : PayS) : (goneP p).seq = p.seq := by unfold goneP; cases decide (p.sta = 1) <;> rfl
theorem goneP_done (p : PayS) (i j : Int) : doneT (goneP p) i j = doneT p i j := by
 unfold goneP
 cases hs : decide (p.sta = 1)
 · rfl
 · have := of_decide_eq_true hs
   simp only [cond_true, doneT]
   rw [if_neg (by rintro ⟨h, _⟩; omega), if_neg (by rintro ⟨h, _⟩; omega)]
theorem Inv.mid {k : Int} {c : H} {ps : List PayS} (v : Inv k c ps) (hk : k ≤ 900) {a : ActS} {c1 : H} {ps1 : List PayS} {n : Int} {d : List Int} (s : Mid c ps a c1 ps1 n d) : Inv (k + 1) c1 ps1 := by
 have vm : Inv (k + 1) c ps := v.mono (by omega)
 have nx := v.next
 cases s with
 | pay h1 hp hl hn =>
   refine ⟨?_, fun p hp' => ?_, ?_, by simp only; omega, v.cred, v.lim, fun i j hi hj => ?_, fun i hi => vm.ext i hi⟩
   · have := v.len; rw [List.length_append]; simp only [List.length_cons, List.length_nil]; omega
   · simp only [List.mem_append, List.mem_singleton] at hp'
     rcases hp' with hp' | rfl
     · have := v.pays p hp'; exact ⟨this.1, by simp only; omega⟩
     · exact ⟨hp, by simp only [newPay]; omega⟩
   · rw [List.map_append, List.nodup_append]
     refine ⟨v.seqs, by simp, fun x hx y hy e => ?_⟩
     simp [newPay] at hy
     obtain ⟨p, hp', rfl⟩ := List.mem_map.1 hx
     have := (v.pays p hp').2
     omega
   · simp only
     rw [doneS_append, v.sums i j hi hj]
     have : doneS [newPay c a] i j = 0 := by simp [doneS, doneT, newPay]
     omega
 | gone p h1 hs =>
   obtain ⟨n0, hp, hsta⟩ := settles_spec hs
   have hg := v.goodPs p (List.mem_of_getElem? hp)
   refine ⟨?_, fun q hq => ?_, ?_, vm.next, v.cred, v.lim, fun i j hi hj => ?_, fun i hi => vm.ext i hi⟩
   · rw [List.length_set]; exact v.len
   · rcases List.mem_or_eq_of_mem_set hq with hq | rfl
     · exact v.pays q hq
     · refine ⟨?_, (v.pays p (List.mem_of_getElem? hp)).2⟩
       simp only [goodPayB, goodStateB, Bool.and_eq_true] at hg ⊢
       exact ⟨⟨hg.1.1, by simp⟩, hg.2⟩
   · have e : (ps.set a.a.toNat { p with sta := 3 }).map PayS.seq = ps.map PayS.seq := by
       rw [List.map_set]
       apply List.ext_getElem?
       intro j
       rw [List.getElem?_set]
       split
       · rename_i e
         subst e
         split
         · rw [List.getElem?_map, hp]; rfl
         · rw [List.getElem?_eq_none (by omega)]
       · rfl
     rw [e]; exact v.seqs
   · rw [doneS_set _ _ _ _ _ _ hp, v.sums i j hi hj]
     have e1 : doneT p i j = 0 := by unfold doneT; rw [if_neg]; rintro ⟨h, _⟩; omega
     have e2 : doneT { p with sta := 3 } i j = 0 := by unfold doneT; rw [if_neg]; rintro ⟨h, _⟩; simp at h
     omega
 | cls p h1 hs hc hn =>
   obtain ⟨n0, hp, hsta⟩ := settles_spec hs
   have hg := v.goodPs p (List.mem_of_getElem? hp)
   refine ⟨?_, fun q hq => ?_, ?_, by simp only; omega, v.cred, v.lim, fun i j hi hj => ?_, fun i hi => vm.ext i hi⟩
   · rw [List.length_set]; exact v.len
   · rcases List.mem_or_eq_of_mem_set hq with hq | rfl
     · have := v.pays q hq; exact ⟨this.1, by simp only; omega⟩
     · refine ⟨?_, by simp only; omega⟩
       simp only [goodPayB, Bool.and_eq_true, within_iff, decide_eq_true_eq] at hg ⊢
       exact ⟨⟨⟨hg.1.1.1, hc⟩, hg.1.2⟩, by omega⟩
   · rw [List.map_set]
     refine nodup_set v.seqs fun hm => ?_
     obtain ⟨q, hq, e⟩ := List.mem_map.1 hm
     have := (v.pays q hq).2
     simp only at e
     omega
   · simp only
     rw [doneS_set _ _ _ _ _ _ hp, v.sums i j hi hj]
     have e1 : doneT p i j = 0 := by unfold doneT; rw [if_neg]; rintro ⟨h, _⟩; omega
     have e2 : doneT { p with cls := a.c, seq := c.next } i j = 0 := by unfold doneT; rw [if_neg]; rintro ⟨h, _⟩; simp only at h; omega
     omega
 | cred h1 ha hn =>
   refine ⟨v.len, v.pays, v.seqs, vm.next, fun i hi => ?_, v.lim, v.sums, fun i hi => vm.ext i hi⟩
   simp only [up1]; split
   · exact hn
   · exact v.cred i hi
 | lim h1 ha hb hne hn =>
   refine ⟨v.len, v.pays, v.seqs, vm.next, v.cred, fun i j hi hj => ?_, v.sums, fun i hi => vm.ext i hi⟩
   simp only [up2]; split
   · exact hn
   · exact v.lim i j hi hj
 | fund h1 ha hn =>
   refine ⟨v.len, v.pays, v.seqs, vm.next, v.cred, v.lim, v.sums, fun i hi => ?_⟩
   have := v.ext i hi
   simp only [up1, outT, inT] at this ⊢; split
   · rename_i e; subst e; omega
   · omega
 | spend h1 ha hn hl =>
   refine ⟨v.len, v.pays, v.seqs, vm.next, v.cred, v.lim, v.sums, fun i hi => ?_⟩
   have := v.ext i hi
   simp only [up1, outT, inT] at this ⊢; split
   · rename_i e; subst e; omega
   · omega
 | untie h1 => exact vm.untie (by omega)
theorem Inv.act {k : Int} {c : H} {ps : List PayS} (v : Inv k c ps) (hk : k ≤ 900) {a : ActS} {r : NR} (s : Step c ps a r) : Inv (k + 1) r.c r.ps := by
 have vm : Inv (k + 1) c ps := v.mono (by omega)
 cases s with
 | err e he => exact vm
 | mid m => exact (v.mid hk m).sweep (by omega)
 | close h1 =>
   refine ⟨by simp only [List.length_map]; exact v.len, fun q hq => ?_, ?_, vm.next, v.cred, v.lim, fun i j hi hj => ?_, fun i hi => vm.ext i hi⟩
   · obtain ⟨p, hp, rfl⟩ := List.mem_map.1 hq
     exact ⟨goneP_good (v.pays p hp).1, by rw [goneP_seq]; exact (v.pays p hp).2⟩
   · simp only [List.map_map]
     rw [show (PayS.seq ∘ goneP) = PayS.seq from funext goneP_seq]; exact v.seqs
   · simp only
     rw [doneS_map _ goneP_done, v.sums i j hi hj]
def Rests (c : H) (ps : List PayS) : Prop := ∀ b : Nat, b < 4 → firstM c ps b = none
theorem rests_sweep {c : H} {ps : List PayS} (hg : goodB c ps = true) : Rests (sweepM c ps).c (sweepM c ps).ps := fun b hb => sweepM_rests hg b hb
theorem rests_none {c : H} {ps : List PayS} (h : ∀ p ∈ ps, p.sta ≠ 1) : Rests c ps := fun b hb => by
 refine firstM_nil ?_
 cases hq : queueM ps b with
 | nil => rfl
 | cons i r =>
   obtain ⟨_, p, hp, h1, _⟩ := queueM_mine (show i ∈ queueM ps b by rw [hq]; simp)
   exact absurd h1 (h p (List.mem_of_getElem? hp))
theorem goneP_sta (p : PayS) : (goneP p).sta ≠ 1 := by
 unfold goneP
 cases hs : decide (p.sta = 1)
 · exact of_decide_eq_false hs
 · simp
theorem rests_act {k : Int} {c : H} {ps : List PayS} (v : Inv k c ps) (hk : k ≤ 900) (h : Rests c ps) {a : ActS} {r : NR} (s : Step c ps a r) : Rests r.c r.ps := by
 cases s with
 | err e he => exact h
 | mid m => exact rests_sweep ((v.mid hk m).good (by omega))
 | close h1 =>
   refine rests_none fun p hp => ?_
   obtain ⟨q, _, rfl⟩ := List.mem_map.1 hp
   exact goneP_sta q
end Go.Proofs.Ytmkboljfbmlebac
