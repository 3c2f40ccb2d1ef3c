/-
  Says: The whole machine: what it says, a call does.
-/
import Derived.Test.YtghkkohjmleepaaDoorVx19
/-! The whole machine: what it says, a call does. -/
set_option linter.unusedVariables false
set_option linter.unusedSimpArgs false
namespace Go.Vx
open Go.RowKit

section
variable {P : Program} {G : VW} {rec : Rec}

theorem code_good (hG : Good P G rec) : ∀ (c : Code) (E : Env) (s : St), okCode P c = true → CodeOk P G (codeC c rec P E s) [.code c] E s := by
  intro c E s hc
  cases c with
  | skip => exact CodeOk.fall fun a w b k cs => .one stepR_skip
  | label l => exact CodeOk.fall fun a w b k cs => .one stepR_label
  | seq x y =>
    simp only [okCode, Bool.and_eq_true] at hc
    exact CodeOk.then (items1 := [.code x]) (items2 := [.code y]) (fun a w b k cs => .one stepR_seq) (hG.code x E s hc.1) (fun s1 _ => hG.code y E s1 hc.2) (fun hne h => Way.pass (i := .code y) rfl hne h)
  | cond o x y =>
    simp only [okCode, Bool.and_eq_true] at hc
    exact cond_good hG hc.1.1 hc.1.2 hc.2
  | block id x => exact block_good hG hc
  | loop x => exact loop_good (c := x) (items := [.code (.loop x)]) hG hc (fun a w b k cs => .one stepR_loop)
  | exit id => exact CodeOk.fall fun a w b k cs => ⟨k, rfl, .refl _ _⟩
  | goto l => exact CodeOk.fall fun a w b k cs => ⟨k, rfl, .refl _ _⟩
  | ret => exact CodeOk.fall fun a w b k cs => ⟨k, .refl _ _⟩
  | scope x => exact scope_good (b0 := x) (c := x) (items := [.code (.scope x)]) hG hc hc (fun a w b k cs => .one stepR_scope)
  | region id ops d =>
    cases d with
    | false => exact list_good hG hc
    | true => exact draw_good hG hc
  | rangeFunc f ps as x =>
    simp only [okCode, Bool.and_eq_true] at hc
    exact range_good hG hc.1.1 hc.1.2 hc.2
  | refuse r => intro x s' h; cases h

/-- What is known of calls. -/
def OrcOk (P : Program) (G : VW) (Q : Orc) : Prop := ∀ f args v, Q f args = some v → ∀ V, CallOk P G (.val v V) f args V

theorem step_good {Q : Orc} (hQ : OrcOk P G Q) (hG : Good P G rec) : Good P G (stepX P Q rec) := by
  refine ⟨fun c E s hc => code_good hG c E s hc, fun c E s hc => ?_, fun x c E s hx hc => ?_, fun f args V => ?_, fun l args V => ?_⟩
  · exact loop_good (items := [.inLoop c]) hG hc (fun a w b k cs => .one stepR_inLoop)
  · exact scope_good (items := [.code c, .inScope x]) hG hx hc (fun a w b k cs => .refl _ _)
  · show CallOk P G (callT f args V P Q rec) f args V
    unfold callT
    split
    · rename_i v hv; exact hQ f args v hv V
    · exact fresh_good hG f args V
  · exact round_good hG l args V

theorem run_good {Q : Orc} (hQ : OrcOk P G Q) : ∀ n, Good P G (run P Q n)
  | 0 => ⟨fun _ _ _ _ _ _ h => (by cases h), fun _ _ _ _ _ _ h => (by cases h), fun _ _ _ _ _ _ _ _ h => (by cases h), fun _ _ _ _ _ h => (by cases h), fun _ _ _ _ _ h => (by cases h)⟩
  | n + 1 => step_good hQ (run_good hQ n)

/-! ### From a world in which the tables lie -/
def glR (N : Nat) : Nat → Ren := fun x => if x < N then .live x 0 0 else .fresh
/-- Tables: rows of atoms that nothing writes. -/
structure Tabs (P : Program) (G : VW) : Prop where
  cells : ∀ g, g < P.globals.size → (∃ c e, G.heap.get g = some (.cells c e true) ∧ c.all atom = true) ∨ G.heap.get g = some (.dfr true)
  rest : ∀ g, P.globals.size ≤ g → G.heap.get g = none
  top : P.globals.size ≤ top

/-- They lie there. -/
def Lies (P : Program) (G : VW) (w : World) : Prop := ∀ g, g < P.globals.size → (∃ c e fr post, G.heap.get g = some (.cells c e true) ∧ w.heap[g]? = some (.cells ⟨c ++ post⟩ e fr)) ∨ (G.heap.get g = some (.dfr true) ∧ g < w.heap.size)

theorem lies_of {B : Base} {β : Nat → Ren} {V : VW} {w : World} (hT : Tabs P G) (hB : HB P G B) (hW : WR P B β V w) : Lies P G w := by
  intro g hg
  obtain ⟨o, o', g1, g2, g3⟩ := hW.obj g g 0 0 (hW.glob g hg)
  rcases hT.cells g hg with ⟨c, e, h1, h2⟩ | h1
  rotate_left
  · exact .inr ⟨h1, block_lt g2⟩
  refine .inl ?_
  have : V.heap.get g = some (.cells c e true) := by
    rw [hW.keep g (Nat.lt_of_lt_of_le hg hW.gfl), hB g hg, h1]
  rw [this] at g1; cases g1
  obtain ⟨pre, mid, post, fr, rfl, hp, hr, _, _⟩ := g3.inv
  have hpre : pre = [] := List.eq_nil_of_length_eq_zero hp
  subst hpre
  have := hr.of_atoms h2
  subst this
  exact ⟨_, e, fr, post, h1, g2⟩

theorem start_ok (hT : Tabs P G) {w : World} (hL : Lies P G w) :
    WR P ⟨w, ⟨G.heap, P.globals.size, P.globals.size⟩, glR P.globals.size, w, fun _ => False⟩ (glR P.globals.size) ⟨G.heap, P.globals.size, P.globals.size⟩ w := by
  have hlive : ∀ i b cp sh, glR P.globals.size i = .live b cp sh → i < P.globals.size ∧ b = i ∧ cp = 0 ∧ sh = 0 := fun i b cp sh h => by
    unfold glR at h
    split at h
    · rename_i hi; cases h; exact ⟨hi, rfl, rfl, rfl⟩
    · cases h
  refine ⟨fun g hg => if_pos hg, Nat.le_refl _, Nat.le_refl _, hT.top, fun i hi => if_neg (by have : P.globals.size ≤ i := hi; omega), fun i b cp sh h => ?_, fun i h => ?_, fun i j b cp sh cp' sh' h1 h2 => ?_, fun i b cp sh h hi => ?_, fun _ _ => rfl, rfl, fun _ _ => rfl, Nat.le_refl _, .refl _ _, fun _ h => h.elim, fun _ _ h => ⟨h, rfl⟩, fun i o ho => ?_⟩
  · obtain ⟨hi, rfl, rfl, rfl⟩ := hlive _ _ _ _ h
    rcases hL _ hi with ⟨c, e, fr, post, h1, h2⟩ | ⟨h1, h2⟩
    rotate_left
    · exact ⟨_, _, h1, Array.getElem?_eq_getElem h2, .dfrT⟩
    rcases hT.cells _ hi with ⟨c', e', h3, h4⟩ | h3
    rotate_left
    · rw [h1] at h3
      cases h3
    rw [h1] at h3; cases h3
    exact ⟨_, _, h1, h2, ObjR.cells (pre := []) rfl (VRs.atoms h4) (by simp) (fun h => by cases h)⟩
  · unfold glR at h; split at h <;> cases h
  · obtain ⟨_, rfl, _, _⟩ := hlive _ _ _ _ h1
    obtain ⟨_, rfl, _, _⟩ := hlive _ _ _ _ h2
    rfl
  · have := (hlive _ _ _ _ h).1
    have hi : P.globals.size ≤ i := hi
    omega
  · have ho : G.heap.get i = some o := ho
    rcases Nat.lt_or_ge i P.globals.size with h | h
    · rcases hT.cells i h with ⟨c, e, h1, h2⟩ | h1
      rotate_left
      · rw [h1] at ho
        cases ho
        exact .dead P _
      rw [h1] at ho; cases ho
      exact ⟨fun _ => .fresh, 0, 0, .cells ⟨[] ++ (c ++ [])⟩ e (0, 0), fun _ _ => rfl, ObjR.cells (pre := []) rfl (VRs.atoms h2) (by simp) (fun h => by cases h)⟩
    · rw [hT.rest i h] at ho; cases ho

/-- A call that comes back with a value, and turns nothing that is there. -/
def Known (P : Program) (G : VW) (f : FuncId) (args : List Value) (v : Value) : Prop :=
  ∀ w, Lies P G w → ∀ cs, ∃ w' fr, Steps P (lone (Frame.enter P f ⟨args⟩ .normal) cs w) (lone fr cs w') ∧ fr.fn = f ∧ fr.leaving P w' (.returned v) ∧ Below w.heap.size w w'

theorem known_of (hT : Tabs P G) {Q : Orc} (hQ : OrcOk P G Q) {n : Nat} {f : FuncId} {args : List Value} {v : Value} {V' : VW} (hr : run P Q n (.call f args ⟨G.heap, P.globals.size, P.globals.size⟩) = .val v V')
    (ha : args.all flat = true) (hv : flat v = true) (hf : ∃ fn c, P.funcs[f]? = some fn ∧ fn.body = some c) : Known P G f args v := by
  intro w hL cs
  have hW := start_ok hT hL
  have hargs : ∀ {l : List Value}, l.all flat = true → VRs (glR P.globals.size) l l := by
    intro l
    induction l with
    | nil => intro _; exact .nil
    | cons x l ih => intro h; simp only [List.all_cons, Bool.and_eq_true] at h; exact .cons (VR.flat h.1) (ih h.2)
  obtain ⟨β', v', w', fr, h1, h2, h3, h4, h5, h6⟩ := (run_good hQ n).call f args _ v V' hr _ _ w args (fun _ _ => rfl) hW (hargs ha) hf cs
  have := h3.of_flat hv
  subst this
  exact ⟨w', fr, h4, h5, h6, h2.base⟩

theorem flat_args {β : Nat → Ren} : ∀ {l l' : List Value}, VRs β l l' → l.all flat = true → l' = l
  | _, _, .nil, _ => rfl
  | _, _, .cons h t, ha => by
    simp only [List.all_cons, Bool.and_eq_true] at ha
    rw [h.of_flat ha.1, flat_args t ha.2]

theorem Known.call (hT : Tabs P G) {f : FuncId} {args : List Value} {v : Value} (h : Known P G f args v) (ha : args.all flat = true) (hv : flat v = true) (V : VW) : CallOk P G (.val v V) f args V := by
  intro v1 V1 he B β w args' hB hW hA _ cs
  cases he
  rw [flat_args hA ha]
  obtain ⟨w', fr, h1, h2, h3, h4⟩ := h w (lies_of hT hB hW) cs
  exact ⟨β, _, w', fr, .refl _, hW.later h4, VR.flat hv, h1, h2, h3⟩

theorem Known.calls {f : FuncId} {args : List Value} {v : Value} (h : Known P G f args v) {w : World} (hL : Lies P G w) : Calls P f ⟨args⟩ w fun e w' => e = .returned v ∧ Below w.heap.size w w' := by
  intro cs
  obtain ⟨w', fr, h1, h2, h3, h4⟩ := h w hL cs
  exact ⟨_, w', fr, ⟨rfl, h4⟩, h1, h2, h3⟩

theorem nothing_known : OrcOk P G noOrc := fun _ _ _ h => by cases h
end
end Go.Vx
