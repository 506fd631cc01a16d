/- Houses that came back, compared. No condition. -/
import Derived.Test.YtbgnmapmiobjcaaK14
import Derived.Test.YtbgnmapmiobjcaaM8
namespace Go.Proofs.Ytbgnmapmiobjcaa
open Go.RowKit
set_option linter.unusedSimpArgs false
set_option linter.unusedVariables false

theorem outPays {F G F' : Addr → Value → Prop} {h0 h : H} {ps0 ps : List PayS} (hp : PaysIn F h0.pa h0.pl ps0) (hF : More F F') (hG : More G F') (ho : (h.pa = h0.pa ∧ h.pl = h0.pl ∧ ps = ps0) ∨ PaysIn G h.pa h.pl ps) : PaysIn F' h.pa h.pl ps := by
  rcases ho with ⟨h1, h2, rfl⟩ | ho
  · rw [h1, h2]; exact hp.mono hF
  · exact ho.mono hG
theorem same_core {h k : H} {ps : List PayS} (hc : h.core = k.core) (hl : h.pl = k.pl) : sameB h ps k ps = true := by
  have e1 : h.has = k.has := show h.core.has = k.core.has by rw [hc]
  have e2 : h.cred = k.cred := show h.core.cred = k.core.cred by rw [hc]
  have e3 : h.sent = k.sent := show h.core.sent = k.core.sent by rw [hc]
  have e4 : h.lim = k.lim := show h.core.lim = k.core.lim by rw [hc]
  have e5 : h.next = k.next := show h.core.next = k.core.next by rw [hc]
  exact same_of (fun i _ => ⟨by rw [e1], by rw [e2]⟩) (fun i j _ _ => ⟨by rw [e3], by rw [e4]⟩) e5 hl
theorem chainP_len : ∀ (r : List Int) (ps : List PayS), (chainP ps r).length = ps.length
  | [], _ => rfl
  | i :: r, ps => by simp only [chainP]; rw [chainP_len r, settleP_len]
theorem chain_len : ∀ (r : List Int) (c : H) (ps : List PayS), Chain c ps r → r.length ≤ cnt ps
  | [], _, _, _ => by simp
  | i :: r, c, ps, h => by
    obtain ⟨⟨b, _, hf⟩, h2⟩ := h
    obtain ⟨p, _, _, h3, _⟩ := firstM_spec hf
    have := cnt_settle h3
    have := chain_len r _ _ h2
    simp only [List.length_cons]; omega
theorem sweepM_len (c : H) (ps : List PayS) : (sweepM c ps).ps.length = ps.length ∧ (sweepM c ps).xs.length ≤ ps.length := by
  cases hg : goodB c ps
  · simp [sweepM, hg]
  · obtain ⟨h1, h2, h3⟩ := sweepM_goes hg
    refine ⟨by rw [h3, chainP_len], ?_⟩
    have := chain_len _ _ _ h1
    have h4 : cnt ps ≤ ps.length := List.countP_le_length
    omega
section
variable {P : Program} {f : Nat → Value} {l : List Oper} {T : Nat → (Addr → Value → Prop) → Value → Prop} {d : Nat} {op : Op} {ty : TypeId} {pos : String} {af : Array Edge} {C : World → Prop}
theorem ob_passU {j s : Nat} {b : Bool} (hj : (l.toArray[j]?).bind (·.dst) = some s) (hs : ∀ (g : Nat → Value) (w : World), C w → (∀ t ∈ (⟨some d, op, ty, pos, af, some (j, b)⟩ : Oper).looksAt l.toArray, (t ∈ dstsOf l → Tab T t (g t) w) ∧ (t ∉ dstsOf l → g t = f t)) → g s = undef ∧ ∀ w, Tab T d undef w) : Ob P C f l (Tab T) ⟨some d, op, ty, pos, af, some (j, b)⟩ := by
  intro g w hw hl
  obtain ⟨h1, h3⟩ := hs g w hw hl
  have : ¬ Region.wanted ⟨some d, op, ty, pos, af, some (j, b)⟩ (yf l.toArray g) = true := by
    simp only [Region.wanted, yf, hj, h1]
    cases b <;> simp [undef]
  rw [if_neg this]
  intro e he
  simp at he; subst he
  exact h3 w
end
end Go.Proofs.Ytbgnmapmiobjcaa
