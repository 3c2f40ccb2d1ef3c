/-
  Says: Code: what a run of the machine here says of the model's. Operations in a frame; calls; regions in order. Calls, rounds of a loop over a function, and such loops.
-/
import Derived.Test.YtdnekeegpenioaaDoorVx8
import Derived.AtR
set_option linter.unusedVariables false
set_option linter.unusedSimpArgs false
set_option linter.unusedSectionVars false
/-! Code: what a run of the machine here says of the model's. -/
namespace Go.Vx
variable [Syms]
variable [Keeps]
open Go.RowKit

/-- The other end of a loop, or of a block for deferred calls: there, or given up. -/
def RoR (β : Nat → Ren) (l l' : Nat) : Prop := (∃ cp sh, β l = .live l' cp sh) ∨ β l = .dead
theorem RoR.mono {β β' : Nat → Ren} (x : Ext β β') {l l' : Nat} : RoR β l l' → RoR β' l l'
  | .inl ⟨_, _, h⟩ => (x.live _ _ _ _ h).elim (fun h => .inl ⟨_, _, h⟩) .inr
  | .inr h => .inr (x.dead _ h)

inductive DR (β : Nat → Ren) : List Nat → List Deferred → Prop where
  | nil : DR β [] []
  | cons {k b : Nat} {l : List Nat} {l' : List Deferred} (h : RoR β k b) (t : DR β l l') : DR β (k :: l) ({ target := .collected b, args := #[] } :: l')
theorem DR.mono {β β' : Nat → Ren} (x : Ext β β') : ∀ {l : List Nat} {l' : List Deferred}, DR β l l' → DR β' l l'
  | _, _, .nil => .nil
  | _, _, .cons h t => .cons (h.mono x) (t.mono x)

structure SR (β : Nat → Ren) (E : Env) (s : St) (a : Act) : Prop where
  tm : TR β E.nt s.tm a.tmps
  df : DR β s.df a.defers
theorem SR.mono {β β' : Nat → Ren} (x : Ext β β') {E : Env} {s : St} {a : Act} (h : SR β E s a) : SR β' E s a := ⟨h.tm.mono x, h.df.mono x⟩

structure Frm (β : Nat → Ren) (E : Env) (b : Frame) : Prop where
  fn : b.fn = E.fn
  kind : b.kind = .normal
  none : E.ro = none → b.roundOf = none
  some : ∀ l, E.ro = some l → ∃ l', b.roundOf = some l' ∧ RoR β l l'
theorem Frm.mono {β β' : Nat → Ren} (x : Ext β β') {E : Env} {b : Frame} (h : Frm β E b) : Frm β' E b :=
  ⟨h.fn, h.kind, h.none, fun l e => let ⟨l', h1, h2⟩ := h.some l e; ⟨l', h1, h2.mono x⟩⟩

/-- How the machine comes out of a piece of code. -/
def Way (P : Program) (m : Machine) (b : Frame) (k : List Item) (cs : List Frame) : X → Act → World → Prop
  | .normal, a, w => Steps P m (lone (b.atR a k) cs w)
  | .exit id, a, w => ∃ k', exitTo id k' = exitTo id k ∧ Steps P m (lone (b.atR a (.code (.exit id) :: k')) cs w)
  | .goto l, a, w => ∃ k', gotoIn l k' = gotoIn l k ∧ Steps P m (lone (b.atR a (.code (.goto l) :: k')) cs w)
  | .ret, a, w => ∃ k', Steps P m (lone (b.atR a (.code .ret :: k')) cs w)

theorem Way.of_steps {P : Program} {m m1 : Machine} {b : Frame} {k : List Item} {cs : List Frame} {x : X} {a : Act} {w : World} (h : Steps P m m1) (h' : Way P m1 b k cs x a w) : Way P m b k cs x a w := by
  cases x with
  | normal => exact h.trans h'
  | exit id => obtain ⟨k', e, s⟩ := h'; exact ⟨k', e, h.trans s⟩
  | goto l => obtain ⟨k', e, s⟩ := h'; exact ⟨k', e, h.trans s⟩
  | ret => obtain ⟨k', s⟩ := h'; exact ⟨k', h.trans s⟩

/-- What lies between changes nothing for those that leave. -/
theorem Way.pass {P : Program} {m : Machine} {b : Frame} {i : Item} {k : List Item} {cs : List Frame} {x : X} {a : Act} {w : World} (hi : i.plain = true) (hx : x ≠ .normal) (h : Way P m b (i :: k) cs x a w) : Way P m b k cs x a w := by
  cases x with
  | normal => exact absurd rfl hx
  | exit id => obtain ⟨k', e, s⟩ := h; exact ⟨k', e.trans (by cases i <;> first | rfl | (cases hi)), s⟩
  | goto l => obtain ⟨k', e, s⟩ := h; exact ⟨k', e.trans (by cases i <;> first | rfl | (cases hi)), s⟩
  | ret => exact h

section
variable {P : Program}

theorem stepR_scope {b : Frame} {a : Act} {k : List Item} {cs : List Frame} {w : World} {c : Code} : step P (lone (b.atR a (.code (.scope c) :: k)) cs w) = .next (lone (b.atR a (.code c :: .inScope c :: k)) cs w) :=
  step_lone_go (by simp [stepG, stepG.exec, Frame.atR])
theorem stepR_inScope {b : Frame} {a : Act} {k : List Item} {cs : List Frame} {w : World} {c : Code} : step P (lone (b.atR a (.inScope c :: k)) cs w) = .next (lone (b.atR a k) cs w) :=
  step_lone_go (by simp [stepG, stepG.exec, Frame.atR])

/-- Which bases are meant: the globals hold what they hold. -/
def HB (P : Program) (G : VW) (B : Base) : Prop := (∀ g, g < P.globals.size → B.V0.heap.get g = G.heap.get g) ∧ Keeps.inv B.w0

def CodeOk (P : Program) (G : VW) (r : R) (items : List Item) (E : Env) (s : St) : Prop :=
  ∀ x s', r = .fall x s' → ∀ (B : Base) (β : Nat → Ren) (a : Act) (w : World) (b : Frame) (k : List Item) (cs : List Frame), HB P G B → WR P B β s.V w → SR β E s a → Frm β E b →
    ∃ β' a' w', Ext β β' ∧ WR P B β' s'.V w' ∧ SR β' E s' a' ∧ Way P (lone (b.atR a (items ++ k)) cs w) b k cs x a' w'

def CallOk (P : Program) (G : VW) (r : R) (f : FuncId) (args : List Value) (V : VW) : Prop :=
  ∀ v V', r = .val v V' → ∀ (B : Base) (β : Nat → Ren) (w : World) (args' : List Value), HB P G B → WR P B β V w → VRs β args args' →
    (∃ fn c, P.funcs[f]? = some fn ∧ fn.body = some c) → ∀ cs,
    ∃ β' v' w' fr, Ext β β' ∧ WR P B β' V' w' ∧ VR β' v v' ∧ Steps P (lone (Frame.enter P f ⟨args'⟩ .normal) cs w) (lone fr cs w') ∧ fr.fn = f ∧ fr.leaving P w' (.returned v')

def RoundOk (P : Program) (G : VW) (r : R) (l : Nat) (args : List Value) (V : VW) : Prop :=
  ∀ v V', r = .val v V' → ∀ (B : Base) (β : Nat → Ren) (w : World) (args' : List Value) (l' : Nat), HB P G B → WR P B β V w → VRs β args args' → RoR β l l' →
    ∃ lp, w.heap[l']? = some (.loop lp) ∧ args'.length = lp.params.size ∧ ∀ c cs, ∃ β' v' w', Ext β β' ∧ WR P B β' V' w' ∧ VR β' v v' ∧
      Steps P (lone (Frame.round l' lp.fn ((lp.params.zip ⟨args'⟩).foldl (fun tmps (t, a) => tmps.setIfInBounds t a) lp.tmps) lp.assign lp.body .normal) (c :: cs) w) (lone (c.finish v') cs w')

/-! ### From a world in which the tables lie -/
section
variable {G : VW}
def glR (N : Nat) : Nat → Ren := fun x => if x < N then .live x 0 0 else .fresh
/-- Tables: rows of atoms that nothing writes. -/
structure Tabs (P : Program) (G : VW) : Prop where
  cells : ∀ g, g < P.globals.size → (∃ c e, G.heap.get g = some (.cells c e true) ∧ c.all atom = true) ∨ G.heap.get g = some (.dfr true)
  rest : ∀ g, P.globals.size ≤ g → G.heap.get g = none
  top : P.globals.size ≤ top

/-- They lie there. -/
def Lies (P : Program) (G : VW) (w : World) : Prop := (∀ g, g < P.globals.size → (∃ c e fr post, G.heap.get g = some (.cells c e true) ∧ w.heap[g]? = some (.cells ⟨c ++ post⟩ e fr)) ∨ (G.heap.get g = some (.dfr true) ∧ g < w.heap.size)) ∧ Keeps.inv w

theorem lies_of {B : Base} {β : Nat → Ren} {V : VW} {w : World} (hT : Tabs P G) (hB : HB P G B) (hW : WR P B β V w) : Lies P G w := by
  refine ⟨fun g hg => ?_, Keeps.keep _ _ hB.2 hW.base⟩
  obtain ⟨o, o', g1, g2, g3⟩ := hW.obj g g 0 0 (hW.glob g hg)
  rcases hT.cells g hg with ⟨c, e, h1, h2⟩ | h1
  rotate_left
  · exact .inr ⟨h1, block_lt g2⟩
  refine .inl ?_
  have : V.heap.get g = some (.cells c e true) := by
    rw [hW.keep g (Nat.lt_of_lt_of_le hg hW.gfl), hB.1 g hg, h1]
  rw [this] at g1; cases g1
  obtain ⟨pre, mid, post, fr, rfl, hp, hr, _, _⟩ := g3.inv
  have hpre : pre = [] := List.eq_nil_of_length_eq_zero hp
  subst hpre
  have := hr.of_atoms h2
  subst this
  exact ⟨_, e, fr, post, h1, g2⟩

theorem start_ok (hT : Tabs P G) {w : World} (hL : Lies P G w) :
    WR P ⟨w, ⟨G.heap, P.globals.size, P.globals.size⟩, glR P.globals.size, w, fun _ => False⟩ (glR P.globals.size) ⟨G.heap, P.globals.size, P.globals.size⟩ w := by
  have hlive : ∀ i b cp sh, glR P.globals.size i = .live b cp sh → i < P.globals.size ∧ b = i ∧ cp = 0 ∧ sh = 0 := fun i b cp sh h => by
    unfold glR at h
    split at h
    · rename_i hi; cases h; exact ⟨hi, rfl, rfl, rfl⟩
    · cases h
  refine ⟨fun g hg => if_pos hg, Nat.le_refl _, Nat.le_refl _, hT.top, fun i hi => if_neg (by have : P.globals.size ≤ i := hi; omega), fun i b cp sh h => ?_, fun i h => ?_, fun i j b cp sh cp' sh' h1 h2 => ?_, fun i b cp sh h hi => ?_, fun _ _ => rfl, rfl, fun _ _ => rfl, Nat.le_refl _, .refl _ _, fun _ h => h.elim, fun _ _ h => ⟨h, rfl⟩, fun i o ho => ?_⟩
  · obtain ⟨hi, rfl, rfl, rfl⟩ := hlive _ _ _ _ h
    rcases hL.1 _ hi with ⟨c, e, fr, post, h1, h2⟩ | ⟨h1, h2⟩
    rotate_left
    · exact ⟨_, _, h1, Array.getElem?_eq_getElem h2, .dfrT⟩
    rcases hT.cells _ hi with ⟨c', e', h3, h4⟩ | h3
    rotate_left
    · rw [h1] at h3
      cases h3
    rw [h1] at h3; cases h3
    exact ⟨_, _, h1, h2, ObjR.cells (pre := []) rfl (VRs.atoms h4) (by simp) (fun h => by cases h)⟩
  · unfold glR at h; split at h <;> cases h
  · obtain ⟨_, rfl, _, _⟩ := hlive _ _ _ _ h1
    obtain ⟨_, rfl, _, _⟩ := hlive _ _ _ _ h2
    rfl
  · have := (hlive _ _ _ _ h).1
    have hi : P.globals.size ≤ i := hi
    omega
  · have ho : G.heap.get i = some o := ho
    rcases Nat.lt_or_ge i P.globals.size with h | h
    · rcases hT.cells i h with ⟨c, e, h1, h2⟩ | h1
      rotate_left
      · rw [h1] at ho
        cases ho
        exact .dead P _
      rw [h1] at ho; cases ho
      exact ⟨fun _ => .fresh, 0, 0, .cells ⟨[] ++ (c ++ [])⟩ e (0, 0), fun _ _ => rfl, ObjR.cells (pre := []) rfl (VRs.atoms h2) (by simp) (fun h => by cases h)⟩
    · rw [hT.rest i h] at ho; cases ho

/-- A call that comes back with a value, and turns nothing that is there. -/
def Known (P : Program) (G : VW) (f : FuncId) (args : List Value) (v : Value) : Prop :=
  ∀ w, Lies P G w → ∀ cs, ∃ w' fr, Steps P (lone (Frame.enter P f ⟨args⟩ .normal) cs w) (lone fr cs w') ∧ fr.fn = f ∧ fr.leaving P w' (.returned v) ∧ Below w.heap.size w w'

end
/-- What a call from the tables alone says. -/
def BaseOk (P : Program) (G : VW) (r : R) (f : FuncId) (args : List Value) : Prop :=
  ∀ v V', r = .val v V' → args.all flat = true → flat v = true → (∃ fn c, P.funcs[f]? = some fn ∧ fn.body = some c) → Known P G f args v

structure Good (P : Program) (G : VW) (rec : Rec) : Prop where
  code : ∀ c E s, OkC P E.fn c → CodeOk P G (rec (.code c E s)) [.code c] E s
  again : ∀ c E s, OkC P E.fn (.loop c) → CodeOk P G (rec (.again c E s)) [.inLoop c] E s
  inside : ∀ b c E s, OkC P E.fn b → OkC P E.fn c → CodeOk P G (rec (.inside b c E s)) [.code c, .inScope b] E s
  call : ∀ f args V, CallOk P G (rec (.call f args V)) f args V
  round : ∀ l args V, RoundOk P G (rec (.round l args V)) l args V
  base : ∀ f args, BaseOk P G (rec (.base f args)) f args

/-! ### The simple ones -/
variable {G : VW}

theorem CodeOk.fall {items : List Item} {E : Env} {s : St} {x : X} (h : ∀ (a : Act) (w : World) (b : Frame) (k : List Item) (cs : List Frame), Way P (lone (b.atR a (items ++ k)) cs w) b k cs x a w) : CodeOk P G (.fall x s) items E s := by
  intro x' s' he B β a w b k cs _ hW hS _
  cases he
  exact ⟨β, a, w, .refl _, hW, hS, h a w b k cs⟩

/-- First the one, then the other. -/
theorem CodeOk.then {r : R} {K : St → R} {items items1 items2 : List Item} {E : Env} {s : St}
    (hstart : ∀ (a : Act) (w : World) (b : Frame) (k : List Item) (cs : List Frame), Steps P (lone (b.atR a (items ++ k)) cs w) (lone (b.atR a (items1 ++ (items2 ++ k))) cs w))
    (h1 : CodeOk P G r items1 E s) (h2 : ∀ s1, r = .fall .normal s1 → CodeOk P G (K s1) items2 E s1)
    (hp : ∀ {m : Machine} {b : Frame} {k : List Item} {cs : List Frame} {x : X} {a : Act} {w : World}, x ≠ .normal → Way P m b (items2 ++ k) cs x a w → Way P m b k cs x a w) :
    CodeOk P G (thenN K r) items E s := by
  intro x s' he B β a w b k cs hB hW hS hF
  have key : ∀ x1 s1, r = .fall x1 s1 → ∃ β' a' w', Ext β β' ∧ WR P B β' s1.V w' ∧ SR β' E s1 a' ∧ Way P (lone (b.atR a (items1 ++ (items2 ++ k))) cs w) b (items2 ++ k) cs x1 a' w' :=
    fun x1 s1 hr => h1 x1 s1 hr B β a w b (items2 ++ k) cs hB hW hS hF
  have out : ∀ x1 s1, r = .fall x1 s1 → x1 ≠ .normal → x1 = x → s1 = s' → ∃ β' a' w', Ext β β' ∧ WR P B β' s'.V w' ∧ SR β' E s' a' ∧ Way P (lone (b.atR a (items ++ k)) cs w) b k cs x a' w' := by
    rintro x1 s1 hr hne rfl rfl
    obtain ⟨β', a', w', e1, e2, e3, e4⟩ := key x1 s1 hr
    exact ⟨β', a', w', e1, e2, e3, .of_steps (hstart a w b k cs) (hp hne e4)⟩
  unfold thenN at he
  split at he
  · rename_i s1
    obtain ⟨β1, a1, w1, e1, e2, e3, e4⟩ := key _ _ rfl
    obtain ⟨β2, a2, w2, f1, f2, f3, f4⟩ := h2 _ rfl x s' he B β1 a1 w1 b k cs hB e2 e3 (hF.mono e1)
    exact ⟨β2, a2, w2, e1.trans f1, f2, f3, .of_steps (hstart a w b k cs) (.of_steps e4 f4)⟩
  · cases he; exact out _ _ rfl (by simp) rfl rfl
  · cases he; exact out _ _ rfl (by simp) rfl rfl
  · cases he; exact out _ _ rfl (by simp) rfl rfl
  · cases he
  · cases he

theorem TR.get {β : Nat → Ren} {nt : Nat} {tm : T Value} {tmps : Array Value} (h : TR β nt tm tmps) (t : Nat) : VR β (tget tm t) (tmps.getD t undef) := h.2 t

/-- An operand. -/
theorem ev_ok {β : Nat → Ren} {B : Base} {V : VW} {w : World} (hW : WR P B β V w) {E : Env} {s : St} {a : Act} (hS : TR β E.nt s.tm a.tmps) {x : Operand} (hx : okO P x = true) : VR β (ev s.tm x) (a.eval x) := by
  cases x with
  | tmp t => exact hS.2 t
  | const v => exact VR.flat hx
  | global g =>
    have := hW.glob g (blt_lt hx)
    exact VR.ptr (o := 0) this
  | func f => exact .atom rfl

theorem OkC.one {f : FuncId} {c x : Code} (h : OkC P f c) (ho : okCode P x = true) (hl : ∀ y ∈ loopsC x, y ∈ loopsC c) : OkC P f x := ⟨ho, fun y hy => h.2 y (hl y hy)⟩
theorem OkC.body {f : FuncId} {c : Code} (h : OkC P f (.loop c)) : OkC P f c := h.one h.1 fun y hy => List.mem_cons_of_mem _ hy
theorem OkC.seq {f : FuncId} {a b : Code} (h : OkC P f (.seq a b)) : OkC P f a ∧ OkC P f b := by
  have h1 := h.1
  simp only [okCode, Bool.and_eq_true] at h1
  exact ⟨h.one h1.1 fun y hy => List.mem_append_left _ hy, h.one h1.2 fun y hy => List.mem_append_right _ hy⟩
theorem OkC.cond {f : FuncId} {o : Operand} {a b : Code} (h : OkC P f (.cond o a b)) : okO P o = true ∧ OkC P f a ∧ OkC P f b := by
  have h1 := h.1
  simp only [okCode, Bool.and_eq_true] at h1
  exact ⟨h1.1.1, h.one h1.1.2 fun y hy => List.mem_append_left _ hy, h.one h1.2 fun y hy => List.mem_append_right _ hy⟩
theorem OkC.range {f : FuncId} {o : Operand} {ps : Array Tmp} {a b : Code} (h : OkC P f (.rangeFunc o ps a b)) : okO P o = true ∧ OkC P f a ∧ OkC P f b := by
  have h1 := h.1
  simp only [okCode, Bool.and_eq_true] at h1
  exact ⟨h1.1.1, h.one h1.1.2 fun y hy => List.mem_append_left _ hy, h.one h1.2 fun y hy => List.mem_append_right _ hy⟩
theorem OkC.ret {f : FuncId} : OkC P f .ret := ⟨rfl, fun y hy => by cases hy⟩
theorem OkC.exit {f : FuncId} {i : Nat} : OkC P f (.exit i) := ⟨rfl, fun y hy => by cases hy⟩
theorem OkC.goto {f : FuncId} {i : Nat} : OkC P f (.goto i) := ⟨rfl, fun y hy => by cases hy⟩
theorem loop_good {rec : Rec} (hG : Good P G rec) {c : Code} {E : Env} {s : St} (hc : OkC P E.fn (.loop c)) {items : List Item}
    (hstart : ∀ (a : Act) (w : World) (b : Frame) (k : List Item) (cs : List Frame), Steps P (lone (b.atR a (items ++ k)) cs w) (lone (b.atR a ([.code c] ++ ([.inLoop c] ++ k))) cs w)) :
    CodeOk P G (loopC c rec P E s) items E s :=
  CodeOk.then hstart (hG.code c E s hc.body) (fun s1 _ => hG.again c E s1 hc) (fun hne h => Way.pass (i := .inLoop c) rfl hne h)

theorem findLabel_loops : ∀ (b : Code) (l : Nat) (rest : Code), findLabel b l = some rest → ∀ x ∈ loopsC rest, x ∈ loopsC b
  | .seq x y, l, rest, hf, z, hz => by
    unfold findLabel at hf
    split at hf
    · rename_i r hr
      cases hf
      rcases List.mem_append.1 hz with hz | hz
      · exact List.mem_append_left _ (findLabel_loops x l r hr z hz)
      · exact List.mem_append_right _ hz
    · exact List.mem_append_right _ (findLabel_loops y l rest hf z hz)
  | .label l', l, rest, hf, z, hz => by
    unfold findLabel at hf
    split at hf
    · cases hf; cases hz
    · cases hf
  | .skip, _, _, hf, _, _ => by cases hf
  | .region .., _, _, hf, _, _ => by cases hf
  | .cond .., _, _, hf, _, _ => by cases hf
  | .block .., _, _, hf, _, _ => by cases hf
  | .loop .., _, _, hf, _, _ => by cases hf
  | .rangeFunc .., _, _, hf, _, _ => by cases hf
  | .exit .., _, _, hf, _, _ => by cases hf
  | .scope .., _, _, hf, _, _ => by cases hf
  | .goto .., _, _, hf, _, _ => by cases hf
  | .ret, _, _, hf, _, _ => by cases hf
  | .refuse .., _, _, hf, _, _ => by cases hf
theorem findLabel_ok : ∀ (b : Code) (l : Nat) (rest : Code), okCode P b = true → findLabel b l = some rest → okCode P rest = true
  | .seq x y, l, rest, h, hf => by
    simp only [okCode, Bool.and_eq_true] at h
    unfold findLabel at hf
    split at hf
    · rename_i r hr
      cases hf
      simp only [okCode, Bool.and_eq_true]
      exact ⟨findLabel_ok x l r h.1 hr, h.2⟩
    · exact findLabel_ok y l rest h.2 hf
  | .label l', l, rest, h, hf => by
    unfold findLabel at hf
    split at hf
    · cases hf; rfl
    · cases hf
  | .skip, _, _, _, hf => by cases hf
  | .region .., _, _, _, hf => by cases hf
  | .cond .., _, _, _, hf => by cases hf
  | .block .., _, _, _, hf => by cases hf
  | .loop .., _, _, _, hf => by cases hf
  | .rangeFunc .., _, _, _, hf => by cases hf
  | .exit .., _, _, _, hf => by cases hf
  | .scope .., _, _, _, hf => by cases hf
  | .goto .., _, _, _, hf => by cases hf
  | .ret, _, _, _, hf => by cases hf
  | .refuse .., _, _, _, hf => by cases hf

theorem scope_good {rec : Rec} (hG : Good P G rec) {b0 c : Code} {E : Env} {s : St} (hb : OkC P E.fn b0) (hc : OkC P E.fn c) {items : List Item}
    (hstart : ∀ (a : Act) (w : World) (b : Frame) (k : List Item) (cs : List Frame), Steps P (lone (b.atR a (items ++ k)) cs w) (lone (b.atR a ([.code c] ++ (.inScope b0 :: k))) cs w)) :
    CodeOk P G (scopeC b0 c rec P E s) items E s := by
  intro x s' he B β a w b k cs hB hW hS hF
  have key := fun x1 s1 hr => hG.code c E s hc x1 s1 hr B β a w b (.inScope b0 :: k) cs hB hW hS hF
  unfold scopeC scopeBack at he
  split at he
  · rename_i l s1 hr
    obtain ⟨β1, a1, w1, e1, e2, e3, k', e4, e5⟩ := key _ _ hr
    split at he
    · rename_i rest hf
      obtain ⟨β2, a2, w2, f1, f2, f3, f4⟩ := hG.inside b0 rest E s1 hb (hb.one (findLabel_ok b0 l rest hb.1 hf) (findLabel_loops b0 l rest hf)) x s' he B β1 a1 w1 b k cs hB e2 e3 (hF.mono e1)
      refine ⟨β2, a2, w2, e1.trans f1, f2, f3, .of_steps (hstart a w b k cs) (.of_steps e5 (.of_steps (.one (stepR_goto (k' := .code rest :: .inScope b0 :: k) ?_)) f4))⟩
      rw [e4]; simp [gotoIn, hf]
    · rename_i hf
      cases he
      refine ⟨β1, a1, w1, e1, e2, e3, .of_steps (hstart a w b k cs) ⟨k', ?_, e5⟩⟩
      rw [e4]; simp [gotoIn, hf]
  · rename_i s1 hr
    cases he
    obtain ⟨β1, a1, w1, e1, e2, e3, e4⟩ := key _ _ hr
    exact ⟨β1, a1, w1, e1, e2, e3, (hstart a w b k cs).trans (Steps.trans e4 (.one stepR_inScope))⟩
  · rename_i i s1 hr
    cases he
    obtain ⟨β1, a1, w1, e1, e2, e3, k', e4, e5⟩ := key _ _ hr
    exact ⟨β1, a1, w1, e1, e2, e3, .of_steps (hstart a w b k cs) ⟨k', e4, e5⟩⟩
  · rename_i s1 hr
    cases he
    obtain ⟨β1, a1, w1, e1, e2, e3, k', e5⟩ := key _ _ hr
    exact ⟨β1, a1, w1, e1, e2, e3, .of_steps (hstart a w b k cs) ⟨k', e5⟩⟩
  · cases he
  · cases he

theorem block_good {rec : Rec} (hG : Good P G rec) {id : Nat} {c : Code} {E : Env} {s : St} (hc : OkC P E.fn c) : CodeOk P G (blockC id c rec P E s) [.code (.block id c)] E s := by
  intro x s' he B β a w b k cs hB hW hS hF
  have key := fun x1 s1 hr => hG.code c E s hc x1 s1 hr B β a w b (.inBlock id :: k) cs hB hW hS hF
  have hstart : Steps P (lone (b.atR a ([.code (.block id c)] ++ k)) cs w) (lone (b.atR a ([.code c] ++ (.inBlock id :: k))) cs w) := .one stepR_block
  unfold blockC blockBack at he
  split at he
  · rename_i i s1 hr
    obtain ⟨β1, a1, w1, e1, e2, e3, k', e4, e5⟩ := key _ _ hr
    split at he
    · rename_i hi
      have hi := Nat.eq_of_beq_eq_true hi
      subst hi
      cases he
      exact ⟨β1, a1, w1, e1, e2, e3, hstart.trans (e5.trans (.one (stepR_exit (by rw [e4]; simp [exitTo]))))⟩
    · rename_i hi
      cases he
      have hne : ¬ id = i := fun hh => by subst hh; simp at hi
      exact ⟨β1, a1, w1, e1, e2, e3, .of_steps hstart ⟨k', by rw [e4]; simp [exitTo, hne], e5⟩⟩
  · rename_i s1 hr
    cases he
    obtain ⟨β1, a1, w1, e1, e2, e3, e4⟩ := key _ _ hr
    exact ⟨β1, a1, w1, e1, e2, e3, hstart.trans (Steps.trans e4 (.one stepR_inBlock))⟩
  · rename_i l s1 hr
    cases he
    obtain ⟨β1, a1, w1, e1, e2, e3, k', e4, e5⟩ := key _ _ hr
    exact ⟨β1, a1, w1, e1, e2, e3, .of_steps hstart ⟨k', e4, e5⟩⟩
  · rename_i s1 hr
    cases he
    obtain ⟨β1, a1, w1, e1, e2, e3, k', e5⟩ := key _ _ hr
    exact ⟨β1, a1, w1, e1, e2, e3, .of_steps hstart ⟨k', e5⟩⟩
  · cases he
  · cases he

theorem cond_good {rec : Rec} (hG : Good P G rec) {c : Operand} {x y : Code} {E : Env} {s : St} (hc : okO P c = true) (hx : OkC P E.fn x) (hy : OkC P E.fn y) : CodeOk P G (condC c x y rec P E s) [.code (.cond c x y)] E s := by
  intro e s' he B β a w b k cs hB hW hS hF
  have hv := ev_ok hW hS.tm hc
  unfold condC at he
  have hb : ∀ t, boolOf (ev s.tm c) = some t → a.eval c = .bool t := fun t ht => by
    rw [show boolOf (ev s.tm c) = boolOf' (ev s.tm c) from by cases ev s.tm c <;> rfl] at ht
    unfold boolOf' at ht
    split at ht
    · rename_i hh; cases ht; rw [hh] at hv; exact hv.bool'
    · cases ht
  split at he
  · rename_i hh
    obtain ⟨β1, a1, w1, e1, e2, e3, e4⟩ := hG.code x E s hx e s' he B β a w b k cs hB hW hS hF
    exact ⟨β1, a1, w1, e1, e2, e3, .of_steps (.one (stepR_cond (t := true) (hb _ hh))) e4⟩
  · rename_i hh
    obtain ⟨β1, a1, w1, e1, e2, e3, e4⟩ := hG.code y E s hy e s' he B β a w b k cs hB hW hS hF
    exact ⟨β1, a1, w1, e1, e2, e3, .of_steps (.one (stepR_cond (t := false) (hb _ hh))) e4⟩
  · cases he
end
end Go.Vx
/-! Operations in a frame; calls; regions in order. -/
namespace Go.Vx
variable [Syms]
variable [Keeps]
open Go.RowKit

section
variable {P : Program} {G : VW} {B : Base} {β : Nat → Ren} {V : VW} {w : World}

theorem okT_lt {t n : Nat} (h : okT t n = true) : t < n ∧ t < top := by
  unfold okT at h
  cases h1 : Nat.ble (Nat.succ t) n with
  | false => rw [h1] at h; cases h
  | true =>
    rw [h1] at h
    exact ⟨Nat.le_of_ble_eq_true h1, Nat.le_of_ble_eq_true (show Nat.ble (Nat.succ t) 1048576 = true from h)⟩
theorem put_ok {E : Env} {d : Option Tmp} {v : Value} {s : St} {V' : VW} {x : X} {s' : St} (hp : putGo E d v s V' = .fall x s') :
    x = .normal ∧ s'.V = V' ∧ s'.df = s.df ∧ ((d = none ∧ s'.tm = s.tm) ∨ ∃ t, d = some t ∧ t < E.nt ∧ t < top ∧ s'.tm = s.tm.set 21 t v) := by
  cases d with
  | none => cases hp; exact ⟨rfl, rfl, rfl, .inl ⟨rfl, rfl⟩⟩
  | some t =>
    change Bool.rec (motive := fun _ => R) (badE 91 E) (putS t v s V') (okT t E.nt) = _ at hp
    cases hb : okT t E.nt with
    | false => rw [hb] at hp; cases hp
    | true =>
      rw [hb] at hp
      obtain ⟨h1, h2⟩ := okT_lt hb
      cases hp
      exact ⟨rfl, rfl, rfl, .inr ⟨t, rfl, h1, h2, rfl⟩⟩

theorem tget_set {tm : T Value} {t : Nat} (ht : t < top) (v : Value) (j : Nat) : tget (tm.set 21 t v) j = if j = t then v else tget tm j := by
  unfold tget
  rw [T.get_put _ _ _ ht]
  split <;> rfl

theorem getD_set {tmps : Array Value} {t : Nat} (ht : t < tmps.size) (v : Value) (j : Nat) : (tmps.setIfInBounds t v).getD j undef = if j = t then v else tmps.getD j undef := by
  simp only [Array.getD_eq_getD_getElem?, Array.getElem?_setIfInBounds]
  by_cases h : t = j
  · subst h; simp [ht]
  · have h' : ¬ j = t := fun e => h e.symm
    simp [h, h']

theorem TR.put {nt : Nat} {tm : T Value} {tmps : Array Value} (h : TR β nt tm tmps) {t : Nat} (h1 : t < nt) (h2 : t < top) {v v' : Value} (hv : VR β v v') : TR β nt (tm.set 21 t v) (tmps.setIfInBounds t v') :=
  ⟨by simp [h.1], fun j => by
    rw [tget_set h2, getD_set (by rw [h.1]; exact h1)]
    split
    · exact hv
    · exact h.2 j⟩

theorem SR.put {E : Env} {s s' : St} {a : Act} (h : SR β E s a) {d : Option Tmp} {v v' : Value} {V' : VW} {x : X} (hp : putGo E d v s V' = .fall x s') (hv : VR β v v') : SR β E s' (a.put d v') := by
  obtain ⟨_, _, hdf, h2⟩ := put_ok hp
  rcases h2 with ⟨rfl, htm⟩ | ⟨t, rfl, h3, h4, htm⟩
  · exact ⟨by rw [htm]; exact h.tm, by rw [hdf]; exact h.df⟩
  · exact ⟨by rw [htm]; exact h.tm.put h3 h4 hv, by rw [hdf]; exact h.df⟩

theorem VR.bool_inv {v : Value} {b : Bool} (h : VR β v (.bool b)) : v = .bool b := by
  generalize hu : Value.bool b = u at h
  cases h <;> first | (subst hu; rfl) | exact absurd hu.symm (Vals.nobool _ _) | (cases hu; done)

theorem want_ok {s : St} {a : Act} {ops : Array Oper} {o : Oper} (hS : ∀ t j wn, o.guard = some (j, wn) → (ops[j]?).bind (·.dst) = some t → VR β (tget s.tm t) (a.tmps.getD t undef)) : wantGo ops.toList o s.tm = Region.wanted o (yielded ops a.tmps) := by
  unfold Region.wanted
  cases hg : o.guard with
  | none => unfold wantGo; rw [hg]; rfl
  | some g =>
    obtain ⟨j, want⟩ := g
    have h1 : wantGo ops.toList o s.tm = Option.rec (motive := fun _ => Bool) false (fun t => boolIs want (tget s.tm t)) ((nthL ops.toList j).bind (·.dst)) := by
      unfold wantGo; rw [hg]; rfl
    rw [h1, nthL_eq, Array.getElem?_toList]
    show _ = (yielded ops a.tmps j == some want)
    unfold yielded
    cases hd : (ops[j]?).bind (·.dst) with
    | none => rfl
    | some t =>
      show boolIs want (tget s.tm t) = _
      have hv := hS t j want hg hd
      simp only [Option.bind_some]
      cases ht : a.tmps[t]? with
      | none =>
        have : a.tmps.getD t undef = undef := by simp [Array.getD_eq_getD_getElem?, ht]
        rw [this] at hv
        have hnb : ∀ b, tget s.tm t ≠ .bool b := fun b hb => by rw [hb] at hv; cases hv.bool'
        cases hx : tget s.tm t <;> first | rfl | (rename_i b; exact absurd hx (hnb b))
      | some u =>
        have hu : a.tmps.getD t undef = u := by simp [Array.getD_eq_getD_getElem?, ht]
        rw [hu] at hv
        cases hx : tget s.tm t with
        | bool b =>
          rw [hx] at hv
          rw [hv.bool']
          cases b <;> cases want <;> rfl
        | _ =>
          have hnb : ∀ b, u ≠ .bool b := fun b hb => by rw [hb] at hv; have := hv.bool_inv; rw [hx] at this; cases this
          cases u <;> first | rfl | (rename_i b; exact absurd rfl (hnb b))

/-! ### One operation -/
theorem stepR_value {b : Frame} {a : Act} {ops : Array Oper} {i : Nat} {rest : List Nat} {k : List Item} {cs : List Frame} {o : Oper} (ho : ops[i]? = some o) (hw : Region.wanted o (yielded ops a.tmps) = true)
    (hd : ∀ c, o.op ≠ .defer c) {v : Value} {w' : World} (hr : RunsTo P (execOp a.eval o) w v w') :
    step P (lone (b.atR a (.inRegion ops (i :: rest) :: k)) cs w) = .next (lone (b.atR (a.put o.dst v) (.inRegion ops rest :: k)) cs w') := by
  have hg := stepGR_op (P := P) (b := b) (k := k) (cs := cs) (w := w) (rest := rest) ho hw
  rw [Oper.semAt_eq _ _ _ hd] at hg
  have hfin : ∀ v, (b.atR a (.inRegion ops (i :: rest) :: k)).finish v = b.atR (a.put o.dst v) (.inRegion ops rest :: k) := by
    intro v; rw [Frame.finish_atR, ho]; rfl
  refine step_lone_go ?_
  rw [hg, ← hfin]
  rcases hr with hr | ⟨rfl, hr⟩
  · simp [stepG.apply, hr]
  · simp [stepG.apply, hr]

theorem stepR_enter {b : Frame} {a : Act} {ops : Array Oper} {i : Nat} {rest : List Nat} {k : List Item} {cs : List Frame} {o : Oper} (ho : ops[i]? = some o) (hw : Region.wanted o (yielded ops a.tmps) = true)
    (hd : ∀ c, o.op ≠ .defer c) {f : FuncId} {args : Array Value} {w' : World} (hr : (execOp a.eval o).run P w = .ok (.enter f args) w') :
    step P (lone (b.atR a (.inRegion ops (i :: rest) :: k)) cs w) = .next (lone (Frame.enter P f args .normal) (b.atR a (.inRegion ops (i :: rest) :: k) :: cs) w') := by
  have hg := stepGR_op (P := P) (b := b) (k := k) (cs := cs) (w := w) (rest := rest) ho hw
  rw [Oper.semAt_eq _ _ _ hd] at hg
  exact step_lone_go (by rw [hg]; simp [stepG.apply, hr, Frame.atR])

theorem stepR_round {b : Frame} {a : Act} {ops : Array Oper} {i : Nat} {rest : List Nat} {k : List Item} {cs : List Frame} {o : Oper} (ho : ops[i]? = some o) (hw : Region.wanted o (yielded ops a.tmps) = true)
    (hd : ∀ c, o.op ≠ .defer c) {l : Nat} {f : FuncId} {tmps : Array Value} {as body : Code} {w' : World} (hr : (execOp a.eval o).run P w = .ok (.round l f tmps as body) w') :
    step P (lone (b.atR a (.inRegion ops (i :: rest) :: k)) cs w) = .next (lone (Frame.round l f tmps as body .normal) (b.atR a (.inRegion ops (i :: rest) :: k) :: cs) w') := by
  have hg := stepGR_op (P := P) (b := b) (k := k) (cs := cs) (w := w) (rest := rest) ho hw
  rw [Oper.semAt_eq _ _ _ hd] at hg
  exact step_lone_go (by rw [hg]; simp [stepG.apply, hr, Frame.atR])

theorem fnOf_spec {f : FuncId} {x : Func × Code} (h : fnOf P f = some x) : P.funcs[f]? = some x.1 ∧ x.1.body = some x.2 ∧ (x.1.name == "runtime.NumGoroutine") = false ∧ OkC P f x.2 := by
  unfold fnOf at h
  split at h
  · rename_i fn hf
    split at h
    · rename_i c hc
      split at h
      · cases h
      · rename_i hh
        cases h
        simp only [Bool.or_eq_true, Bool.not_eq_true', not_or, Bool.not_eq_true, Bool.not_eq_false] at hh
        refine ⟨hf, hc, hh.1, hh.2, fun y hy => ?_⟩
        unfold loopsP
        rw [hf]
        simp only [hc]
        exact hy
    · cases h
  · cases h

theorem run_callFunc {f : FuncId} {x : Func × Code} (h : fnOf P f = some x) (args : Array Value) : (callFunc f args).run P w = .ok (.enter f args) w := by
  obtain ⟨h1, h2, h3, _⟩ := fnOf_spec h
  have h3' : ¬ (x.1.name = "runtime.NumGoroutine") := by simpa using h3
  simp [callFunc, h1, h2, h3']

/-- An operation, in a frame. -/
theorem op_ok {rec : Rec} (hG : Good P G rec) {E : Env} {o : Oper} {s : St} {v : Value} {V' : VW} (hp : opGo rec P E o s V = .val v V') (hB : HB P G B) (hW : WR P B β V w) {a : Act} (hρ : ∀ x ∈ o.op.operands, VR β (ev s.tm x) (a.eval x))
    {b : Frame} {ops : Array Oper} {i : Nat} {rest : List Nat} {k : List Item} {cs : List Frame} (ho : ops[i]? = some o) (hw : Region.wanted o (yielded ops a.tmps) = true) :
    ∃ β' v' w', Ext β β' ∧ WR P B β' V' w' ∧ VR β' v v' ∧ Steps P (lone (b.atR a (.inRegion ops (i :: rest) :: k)) cs w) (lone (b.atR (a.put o.dst v') (.inRegion ops rest :: k)) cs w') := by
  have hfin : ∀ v, (b.atR a (.inRegion ops (i :: rest) :: k)).finish v = b.atR (a.put o.dst v) (.inRegion ops rest :: k) := by
    intro v; rw [Frame.finish_atR, ho]; rfl
  have hres : (∀ c, o.op ≠ .defer c) → Res P B β w (execOp a.eval o) v V' → ∃ β' v' w', Ext β β' ∧ WR P B β' V' w' ∧ VR β' v v' ∧ Steps P (lone (b.atR a (.inRegion ops (i :: rest) :: k)) cs w) (lone (b.atR (a.put o.dst v') (.inRegion ops rest :: k)) cs w') :=
    fun hd ⟨β', v', w', h1, h2, h3, h4⟩ => ⟨β', v', w', h1, h2, h3, .one (stepR_value ho hw hd h4)⟩
  by_cases hcall : ∃ c, o.op = .call c
  · obtain ⟨c, hc⟩ := hcall
    have hd : ∀ c, o.op ≠ .defer c := fun c' hh => by rw [hc] at hh; cases hh
    have hp' : callGo c rec P E o (ev s.tm) V = .val v V' := by
      unfold opGo opGk at hp; rw [hc] at hp; exact hp
    unfold callGo at hp'
    have hops : o.op.operands = c.operands := by rw [hc]; rfl
    cases hcc : c.callee with
    | builtin bb =>
      rw [hcc] at hp'
      exact hres hd (bi_ok (rec := rec) (E := E) hW hc hcc (fun x hx => hρ x (by rw [hops]; simp [Call.operands, hcc, hx])) hp')
    | invoke r m => rw [hcc] at hp'; cases hp'
    | value f =>
      rw [hcc] at hp'
      have hf := hρ f (by rw [hops]; simp [Call.operands, hcc])
      have hargs : ∀ x ∈ c.args, VR β (ev s.tm x) (a.eval x) := fun x hx => hρ x (by rw [hops]; simp [Call.operands, hcc, hx])
      have hexec : execOp a.eval o = (do let d ← Deferred.ofValue (a.eval f) (c.args.map a.eval); invoke d.target d.args : Sem Next) := by
        unfold execOp; simp only [hc]; unfold resolve; simp only [hcc]
      have hA : c.args.map a.eval = ⟨c.args.toList.map a.eval⟩ := by apply Array.ext'; simp
      have hAR : VRs β (c.args.toList.map (ev s.tm)) (c.args.toList.map a.eval) := VRs.map fun x hx => hargs x (by simpa using hx)
      change valueGo f rec P E o c (ev s.tm) V = _ at hp'
      unfold valueGo at hp'
      split at hp'
      · rename_i g fa fb hfv
        rw [hfv] at hf
        have hfr : ∃ fa' fb', a.eval f = .func (.func g) ⟨fa'⟩ ⟨fb'⟩ ∧ VRs β fa fa' ∧ VRs β fb fb' := by
          obtain ⟨y, hy⟩ : ∃ y, a.eval f = y := ⟨_, rfl⟩
          rw [hy] at hf ⊢
          cases hf with
          | atom h =>
            cases fa with
            | nil => cases fb with
              | nil => exact ⟨[], [], rfl, .nil, .nil⟩
              | cons _ _ => simp [atom] at h
            | cons _ _ => simp [atom] at h
          | func _ h1 h2 => exact ⟨_, _, rfl, h1, h2⟩
        obtain ⟨fa', fb', hfe, h1, h2⟩ := hfr
        split at hp'
        · rename_i fx hfx
          obtain ⟨hfn, hbody, _, _⟩ := fnOf_spec hfx
          rw [appL_eq, appL_eq, mapL_eq] at hp'
          have hrun : (execOp a.eval o).run P w = .ok (.enter g ⟨fa' ++ (c.args.toList.map a.eval ++ fb')⟩) w := by
            rw [hexec, hfe, hA]
            have harr : (⟨fa'⟩ ++ ⟨c.args.toList.map a.eval⟩ ++ ⟨fb'⟩ : Array Value) = ⟨fa' ++ (c.args.toList.map a.eval ++ fb')⟩ := by apply Array.ext'; simp
            simp only [Deferred.ofValue, Sem.run_bind, Sem.run_pure, Result.andThen_ok, invoke, harr]
            exact run_callFunc hfx _
          obtain ⟨β', v', w', fr, e1, e2, e3, e4, _, e6⟩ := hG.call g _ V v V' hp' B β w _ hB hW (h1.append (hAR.append h2)) ⟨_, _, hfn, hbody⟩ (b.atR a (.inRegion ops (i :: rest) :: k) :: cs)
          refine ⟨β', v', w', e1, e2, e3, .head (stepR_enter ho hw hd hrun) (e4.trans (.one ?_))⟩
          rw [← hfin]; exact step_leave_returned e6
        · split at hp'
          · rename_i hfl
            simp only [Bool.and_eq_true] at hfl
            refine hres hd (flat_ok hW (o := o) (fun cs' bb hh => by rw [hc] at hh; cases hh) (e := ev s.tm) (fun x hx => hρ x hx) (fun x hx => ?_) hp')
            rw [hops] at hx
            simp only [Call.operands, hcc, Array.mem_append, List.mem_toArray, List.mem_cons, List.not_mem_nil, or_false] at hx
            rcases hx with rfl | hx
            · exact hfl.1
            · exact List.all_eq_true.1 hfl.2 x (by simpa using hx)
          · cases hp'
      · rename_i l fb hfv
        rw [hfv] at hf
        have hfr : ∃ l', a.eval f = .func (.yield l') ⟨[]⟩ ⟨[]⟩ ∧ RoR β l l' := by
          obtain ⟨y, hy⟩ : ∃ y, a.eval f = y := ⟨_, rfl⟩
          rw [hy] at hf ⊢
          cases hf with
          | atom h => simp [atom] at h
          | func h _ _ => cases h
          | yield h => exact ⟨_, rfl, .inl ⟨_, _, h⟩⟩
          | yieldD h => exact ⟨_, rfl, .inr h⟩
        obtain ⟨l', hfe, hl⟩ := hfr
        rw [mapL_eq] at hp'
        obtain ⟨lp, g1, g2, g3⟩ := hG.round l _ V v V' hp' B β w _ l' hB hW hAR hl
        obtain ⟨β', v', w', e1, e2, e3, e4⟩ := g3 (b.atR a (.inRegion ops (i :: rest) :: k)) cs
        have hrun : (execOp a.eval o).run P w = .ok (.round l' lp.fn ((lp.params.zip ⟨c.args.toList.map a.eval⟩).foldl (fun tmps (t, a) => tmps.setIfInBounds t a) lp.tmps) lp.assign lp.body) w := by
          rw [hexec, hfe, hA]
          have harr : (⟨[]⟩ ++ ⟨c.args.toList.map a.eval⟩ : Array Value) = ⟨c.args.toList.map a.eval⟩ := by apply Array.ext'; simp
          simp only [Deferred.ofValue, Sem.run_bind, Sem.run_pure, Result.andThen_ok, invoke, harr]
          exact run_yield g1 (by simpa using g2)
        refine ⟨β', v', w', e1, e2, e3, .head (stepR_round ho hw hd hrun) ?_⟩
        rw [← hfin]; exact e4
      · cases hp'
  · have hp' : plainGo P o (ev s.tm) V = .val v V' := by
      unfold opGo opGk at hp
      obtain ⟨dst, op, type, pos, after, guard⟩ := o
      cases op <;> first | exact hp | exact absurd ⟨_, rfl⟩ hcall
    refine hres (fun c hh => ?_) (plain_ok hW hρ hp')
    obtain ⟨dst, op, type, pos, after, guard⟩ := o
    simp only at hh
    subst hh
    cases hp'

/-- One operation of a region. -/
theorem one_ok {rec : Rec} (hG : Good P G rec) {E : Env} {o : Oper} {s s' : St} {x : X} {ops : Array Oper} (hp : oneGo rec P E ops.toList o s V = .fall x s') (hB : HB P G B) (hW : WR P B β V w) {a : Act}
    (hwant : wantGo ops.toList o s.tm = Region.wanted o (yielded ops a.tmps)) (hρ : ∀ x ∈ o.op.operands, VR β (ev s.tm x) (a.eval x))
    {b : Frame} {i : Nat} {rest : List Nat} {k : List Item} {cs : List Frame} (ho : ops[i]? = some o) :
    ∃ v V', putGo E o.dst v s V' = .fall x s' ∧ ∃ β' v' w', Ext β β' ∧ WR P B β' V' w' ∧ VR β' v v' ∧ Steps P (lone (b.atR a (.inRegion ops (i :: rest) :: k)) cs w) (lone (b.atR (a.put o.dst v') (.inRegion ops rest :: k)) cs w') := by
  unfold oneGo at hp
  cases hb : wantGo ops.toList o s.tm with
  | false =>
    rw [hb] at hp
    refine ⟨undef, V, hp, β, undef, w, .refl _, hW, .undef, .one ?_⟩
    have h := stepR_op_skip (P := P) (b := b) (a := a) (k := k) (cs := cs) (w := w) (ops := ops) (i := i) (rest := rest) (by rw [ho]; simp; rw [← hwant, hb])
    rw [ho] at h; exact h
  | true =>
    rw [hb] at hp
    change afterGo E o.dst s (opGo rec P E o s V) = _ at hp
    cases hop : opGo rec P E o s V with
    | val v V' =>
      rw [hop] at hp
      obtain ⟨β', v', w', h1, h2, h3, h4⟩ := op_ok hG hop hB hW hρ (b := b) (rest := rest) (k := k) (cs := cs) ho (by rw [← hwant, hb])
      exact ⟨v, V', hp, β', v', w', h1, h2, h3, h4⟩
    | fall y t => rw [hop] at hp; cases hp
    | bad m n => rw [hop] at hp; cases hp

theorem okOps_mem : ∀ {l : List Oper}, okOps P l = true → ∀ o ∈ l, okOp P o = true
  | [], _, _, h => by cases h
  | p :: l, h, o, ho => by
    simp only [okOps, Bool.and_eq_true] at h
    rcases List.mem_cons.1 ho with rfl | ho
    · exact h.1
    · exact okOps_mem h.2 o ho
theorem okOp_mem {o : Oper} (h : okOp P o = true) : ∀ x ∈ o.op.operands, okO P x = true := fun x hx => List.all_eq_true.1 h x (by simpa using hx)

theorem opsGo_cons {rec : Rec} {E : Env} {all : List Oper} (o : Oper) (l : List Oper) (s : St) : opsGo rec P E all (o :: l) s = thenOps (opsGo rec P E all l) (oneGo rec P E all o s s.V) := rfl
theorem thenOps_fall {K : St → R} {r : R} {x : X} {s' : St} (h : thenOps K r = .fall x s') : ∃ y s1, r = .fall y s1 ∧ K s1 = .fall x s' := by
  cases r with
  | fall y s1 => exact ⟨y, s1, rfl, h⟩
  | val v V => cases h
  | bad a b => cases h

/-- A region in its order. -/
theorem ops_ok {rec : Rec} (hG : Good P G rec) {E : Env} {ops : Array Oper} (hok : okOps P ops.toList = true) {b : Frame} {k : List Item} {cs : List Frame} (hB : HB P G B) :
    ∀ (l : List Oper) (j : Nat) (s s' : St) (x : X) (β : Nat → Ren) (a : Act) (w : World), l = ops.toList.drop j → opsGo rec P E ops.toList l s = .fall x s' → WR P B β s.V w → SR β E s a →
      x = .normal ∧ ∃ β' a' w', Ext β β' ∧ WR P B β' s'.V w' ∧ SR β' E s' a' ∧ Steps P (lone (b.atR a (.inRegion ops ((List.range ops.size).drop j) :: k)) cs w) (lone (b.atR a' k) cs w')
  | [], j, s, s', x, β, a, w, hl, hp, hW, hS => by
    cases hp
    have hj : ops.size ≤ j := by
      have := List.drop_eq_nil_iff.1 hl.symm; simpa using this
    refine ⟨rfl, β, a, w, .refl _, hW, hS, ?_⟩
    rw [List.drop_eq_nil_of_le (by simpa using hj)]
    exact .one stepR_region_end
  | o :: l, j, s, s', x, β, a, w, hl, hp, hW, hS => by
    rw [opsGo_cons] at hp
    obtain ⟨y, s1, h1, h2⟩ := thenOps_fall hp
    have hj : j < ops.size := by
      rcases Nat.lt_or_ge j ops.size with h | h
      · exact h
      · rw [List.drop_eq_nil_of_le (by simpa using h)] at hl; cases hl
    have hoj : ops[j]? = some o := by
      rw [← Array.getElem?_toList]
      have : (ops.toList.drop j)[0]? = some o := by rw [← hl]; rfl
      simpa using this
    have hl' : l = ops.toList.drop (j + 1) := by
      have : (ops.toList.drop j).tail = l := by rw [← hl]; rfl
      rw [← this]; simp
    have hmem : o ∈ ops.toList := by rw [← Array.getElem?_toList] at hoj; exact List.mem_of_getElem? hoj
    have hoko := okOps_mem hok o hmem
    have hρ : ∀ x ∈ o.op.operands, VR β (ev s.tm x) (a.eval x) := fun x hx => ev_ok hW hS.tm (okOp_mem hoko x hx)
    obtain ⟨v, V', hput, β1, v', w1, e1, e2, e3, e4⟩ := one_ok hG h1 hB hW (want_ok fun t _ _ _ _ => hS.tm.2 t) hρ (b := b) (rest := (List.range ops.size).drop (j + 1)) (k := k) (cs := cs) hoj
    obtain ⟨rfl, hV, _, _⟩ := put_ok hput
    obtain ⟨hx, β2, a2, w2, f1, f2, f3, f4⟩ := ops_ok hG hok hB l (j + 1) s1 s' x β1 (a.put o.dst v') w1 hl' h2 (by rw [hV]; exact e2) ((hS.mono e1).put hput e3)
    refine ⟨hx, β2, a2, w2, e1.trans f1, f2, f3, ?_⟩
    have hr : (List.range ops.size).drop j = j :: (List.range ops.size).drop (j + 1) := by
      rw [List.drop_eq_getElem_cons (by simpa using hj)]; simp
    rw [hr]
    exact e4.trans f4

theorem list_good {rec : Rec} (hG : Good P G rec) {ops : Array Oper} {E : Env} {s : St} (hok : okOps P ops.toList = true) {id : Nat} : CodeOk P G (listC ops rec P E s) [.code (.region id ops false)] E s := by
  intro x s' he B β a w b k cs hB hW hS hF
  obtain ⟨rfl, β', a', w', e1, e2, e3, e4⟩ := ops_ok hG hok (b := b) (k := k) (cs := cs) hB ops.toList 0 s s' x β a w rfl he hW hS
  exact ⟨β', a', w', e1, e2, e3, .head stepR_region e4⟩
end
end Go.Vx
/-! Calls, rounds of a loop over a function, and such loops. -/
namespace Go.Vx
variable [Syms]
variable [Keeps]
open Go.RowKit

section
variable {P : Program} {G : VW} {B : Base} {β : Nat → Ren} {V : VW} {w : World}

theorem step_unwind {fr : Frame} {cs : List Frame} {blk : Nat} {ds : List Deferred} (hm : fr.mode = .returning) (hd : fr.defers = { target := .collected blk, args := #[] } :: ds) (hb : w.heap[blk]? = some (.deferred (some []))) :
    step P (lone fr cs w) = .next (lone { fr with defers := ds } cs (w.putObj blk (.deferred none))) :=
  step_lone_go (by simp [stepG, unwind, hm, hd, Sem.runT_eq, run_takeDeferred (P := P) hb])

theorem DR.nil_inv {ds : List Deferred} (h : DR β [] ds) : ds = [] := by cases h; rfl

/-- A block that is there. -/
theorem RoR.obj (h : WR P B β V w) {l l' : Nat} (hr : RoR β l l') {o : VObj} (hg : V.heap.get l = some o) (hne : o ≠ .dfr true) : ∃ cp sh o', β l = .live l' cp sh ∧ w.heap[l']? = some o' ∧ ObjR P β cp sh o o' := by
  rcases hr with ⟨cp, sh, e⟩ | e
  · obtain ⟨p, p', h1, h2, h3⟩ := h.obj _ _ _ _ e
    rw [hg] at h1; cases h1
    exact ⟨cp, sh, p', e, h2, h3⟩
  · have := h.dead _ e; rw [hg] at this; cases this; exact absurd rfl hne

theorem load_asAddr {t : TypeId} {v u : Value} (h : (Instr.loadAt t v).run P w = .ok u w) : (do loadVar t (← asAddr v) : Sem Value).run P w = .ok u w := by
  cases v with
  | pointer a =>
    cases a with
    | none => simp [Instr.loadAt, Instr.sureAddr] at h
    | some a => simpa [Instr.loadAt, Instr.sureAddr, asAddr] using h
  | _ => simp [Instr.loadAt, Instr.sureAddr] at h

theorem res_ok (h : WR P B β V w) {nt : Nat} {s : St} {tmps : Array Value} (hT : TR β nt s.tm tmps) {g : ResultVar → Sem Value} (hg1 : ∀ t, g (.tmp t) = pure (tmps.getD t undef)) (hg2 : ∀ a t, g (.cell a t) = (do loadVar t (← asAddr (tmps.getD a undef)))) :
    ∀ (l : List ResultVar) {vs : List Value}, resGo P s V l = some vs → ∃ vs', (l.mapM g).run P w = .ok vs' w ∧ VRs β vs vs'
  | [], vs, hr => by cases hr; exact ⟨[], by simp, .nil⟩
  | .tmp t :: l, vs, hr => by
    unfold resGo at hr
    split at hr
    · rename_i vs0 h0
      cases hr
      obtain ⟨vs', h1, h2⟩ := res_ok h hT hg1 hg2 l h0
      refine ⟨tmps.getD t undef :: vs', ?_, .cons (hT.2 t) h2⟩
      rw [List.mapM_cons, Sem.run_bind, hg1]
      simp [h1]
    · cases hr
  | .cell a t :: l, vs, hr => by
    unfold resGo at hr
    split at hr
    · rename_i v vs0 hv h0
      cases hr
      obtain ⟨vs', h1, h2⟩ := res_ok h hT hg1 hg2 l h0
      obtain ⟨u, h3, h4⟩ := load_ok h (hT.2 a) hv
      refine ⟨u :: vs', ?_, .cons h4 h2⟩
      rw [List.mapM_cons, Sem.run_bind, hg2, load_asAddr h3]
      simp [h1]
    · cases hr

theorem results_ok (h : WR P B β V w) {nt : Nat} {s : St} {tmps : Array Value} (hT : TR β nt s.tm tmps) {fn : Func} {vs : List Value} (hr : resGo P s V fn.results.toList = some vs) :
    ∃ vs', VRs β vs vs' ∧ (results fn tmps).run P w = .ok (if h : vs'.length = 1 then vs'[0] else .tuple ⟨vs'⟩) w := by
  have key : ∃ g : ResultVar → Sem Value, (∀ t, g (.tmp t) = pure (tmps.getD t undef)) ∧ (∀ a t, g (.cell a t) = (do loadVar t (← asAddr (tmps.getD a undef)))) ∧
      results fn tmps = (do let vs ← fn.results.mapM g; pure (if h : vs.size = 1 then vs[0] else .tuple vs)) := ⟨_, fun _ => rfl, fun _ _ => rfl, rfl⟩
  obtain ⟨g, h1, h2, h3⟩ := key
  obtain ⟨vs', h4, h5⟩ := res_ok h hT h1 h2 _ hr
  refine ⟨vs', h5, ?_⟩
  rw [h3, Array.mapM_eq_mapM_toList]
  simp only [Sem.run_bind, Sem.run_map, h4, Result.andThen_ok, Sem.run_pure]
  congr 1

/-- A function is left. -/
theorem leave_ok {fn : Func} {f : FuncId} (hfn : P.funcs[f]? = some fn) {cs : List Frame} {nt : Nat} {s : St} {tmps : Array Value} (hT : TR β nt s.tm tmps) :
    ∀ (df : List Nat) (V : VW) (w : World) (ds : List Deferred) (fr : Frame) {v : Value} {V' : VW}, leaveGo P fn f s V df = .val v V' → WR P B β V w → DR β df ds →
      fr.mode = .returning → fr.tmps = tmps → fr.defers = ds → fr.kind = .normal → fr.fn = f →
      ∃ v' w' fr', WR P B β V' w' ∧ VR β v v' ∧ Steps P (lone fr cs w) (lone fr' cs w') ∧ fr'.fn = f ∧ fr'.leaving P w' (.returned v')
  | [], V, w, ds, fr, v, V', hp, hW, hD, hm, ht, hd, hk, hf => by
    have hds := hD.nil_inv
    subst hds
    have hlv : ∀ u, (results fn tmps).run P w = .ok u w → fr.leaving P w (.returned u) := fun u hu => ⟨hm, hd, hk, fn, by rw [hf]; exact hfn, by rw [ht]; exact hu⟩
    unfold leaveGo at hp
    split at hp
    · rename_i u hr
      cases hp
      obtain ⟨vs', h1, h2⟩ := results_ok hW hT hr
      cases h1 with
      | cons h3 h4 =>
        cases h4
        exact ⟨_, w, fr, hW, h3, .refl _ _, hf, hlv _ (by simpa using h2)⟩
    · rename_i vs hne hr
      cases hp
      obtain ⟨vs', h1, h2⟩ := results_ok hW hT hr
      have hl : ¬ vs'.length = 1 := fun hh => by
        rw [h1.length] at hh
        obtain ⟨u, hu⟩ := List.length_eq_one_iff.1 hh
        exact hne u hu
      rw [dif_neg hl] at h2
      exact ⟨_, w, fr, hW, .tuple h1, .refl _ _, hf, hlv _ h2⟩
    · cases hp
  | k :: df, V, w, ds, fr, v, V', hp, hW, hD, hm, ht, hd, hk, hf => by
    unfold leaveGo at hp
    split at hp
    · rename_i hg
      split at hp
      · rename_i hfl
        have hfl := Nat.le_of_ble_eq_true hfl
        cases hD with
        | @cons k b l l' hr ht' =>
          obtain ⟨cp, sh, o', e1, e2, e3⟩ := hr.obj hW hg (by simp)
          cases e3 with
          | dfr =>
            obtain ⟨v', w', fr', h1, h2, h3, h4, h5⟩ := leave_ok hfn hT df _ _ l' { fr with defers := l' } hp (hW.put e1 hfl (o' := .deferred none) .dfrT) ht' hm ht rfl hk hf
            exact ⟨v', w', fr', h1, h2, .head (step_unwind hm hd e2) h3, h4, h5⟩
      · cases hp
    · cases hp

theorem fillT_get : ∀ (l : List Value) (i : Nat) (t : T Value) (j : Nat), i + l.length ≤ top → (fillT 21 l i t).get j = if i ≤ j ∧ j < i + l.length then l[j - i]? else t.get j
  | [], i, t, j, _ => by rw [if_neg (by simp only [List.length_nil]; omega)]; rfl
  | v :: l, i, t, j, h => by
    simp only [List.length_cons] at h
    unfold fillT
    rw [fillT_get l (i + 1) _ j (by omega), T.get_put _ _ _ (by omega)]
    by_cases h1 : i + 1 ≤ j ∧ j < i + 1 + l.length
    · rw [if_pos h1, if_pos (by simp only [List.length_cons]; omega), show j - i = (j - (i + 1)) + 1 from by omega]
      simp
    · rw [if_neg h1]
      by_cases h2 : j = i
      · subst h2; rw [if_pos rfl, if_pos (by simp)]; simp
      · rw [if_neg h2, if_neg (by simp only [List.length_cons]; omega)]

theorem fillT_tr {args args' : List Value} (h : VRs β args args') {nt : Nat} (hn : args.length ≤ nt) (ht : args.length ≤ top) :
    TR β nt (fillT 21 args 0 .nil) ((⟨args'⟩ : Array Value) ++ Array.replicate (nt - (⟨args'⟩ : Array Value).size) undef) := by
  refine ⟨by simp [h.length]; omega, fun t => ?_⟩
  unfold tget orU
  rw [fillT_get args 0 .nil t (by omega)]
  simp only [Array.getD_eq_getD_getElem?, Array.getElem?_append, Nat.zero_le, true_and, Nat.zero_add, Nat.sub_zero]
  by_cases ht' : t < args.length
  · rw [if_pos ht']
    have : t < args'.length := by rw [h.length]; exact ht'
    obtain ⟨v', h1, h2⟩ := h.get? (List.getElem?_eq_getElem ht')
    rw [List.getElem?_eq_getElem ht']
    have hs : t < (⟨args'⟩ : Array Value).size := this
    rw [if_pos hs, arr_get, h1]
    exact h2
  · rw [if_neg ht']
    have hs : ¬ t < (⟨args'⟩ : Array Value).size := by show ¬ t < args'.length; rw [h.length]; exact ht'
    rw [if_neg hs, Array.getElem?_replicate]
    split
    · exact .undef
    · exact .undef

/-- A call. -/
theorem fresh_good {rec : Rec} (hG : Good P G rec) (f : FuncId) (args : List Value) (V : VW) : CallOk P G (freshT f args V P rec) f args V := by
  intro v V' hp B β w args' hB hW hA _ cs
  unfold freshT at hp
  split at hp
  · rename_i fc hfc
    obtain ⟨hfn, hbody, _, hok⟩ := fnOf_spec hfc
    obtain ⟨fn, c⟩ := fc
    simp only at hfn hbody hok
    unfold enterGo at hp
    split at hp
    · rename_i hle
      have hle := Nat.le_of_ble_eq_true hle
      rw [lenL_eq] at hle
      have hle1 : args.length ≤ fn.ntmps := Nat.le_trans hle (Nat.min_le_left _ _)
      have hle2 : args.length ≤ top := Nat.le_trans hle (Nat.min_le_right _ _)
      have hT := fillT_tr hA hle1 hle2
      let b : Frame := { fn := f, tmps := #[], todo := [], defers := [], mode := .run, kind := .normal }
      have henter : Frame.enter P f ⟨args'⟩ .normal = b.atR { tmps := (⟨args'⟩ : Array Value) ++ Array.replicate (fn.ntmps - (⟨args'⟩ : Array Value).size) undef, defers := [] } [.code c] := by
        simp [Frame.enter, Frame.atR, hfn, hbody, b]
      have hF : Frm β ⟨f, fn.ntmps, none⟩ b := ⟨rfl, rfl, fun _ => rfl, fun l hl => by cases hl⟩
      have key := fun x s1 hr => hG.code c ⟨f, fn.ntmps, none⟩ ⟨fillT 21 args 0 .nil, V, []⟩ hok x s1 hr B β ⟨(⟨args'⟩ : Array Value) ++ Array.replicate (fn.ntmps - (⟨args'⟩ : Array Value).size) undef, []⟩ w b [] cs hB hW ⟨hT, .nil⟩ hF
      have fin : ∀ (x : X) (s1 : St), rec (.code c ⟨f, fn.ntmps, none⟩ ⟨fillT 21 args 0 .nil, V, []⟩) = .fall x s1 → leaveGo P fn f s1 s1.V s1.df = .val v V' → (x = .normal ∨ x = .ret) →
          ∃ β' v' w' fr, Ext β β' ∧ WR P B β' V' w' ∧ VR β' v v' ∧ Steps P (lone (Frame.enter P f ⟨args'⟩ .normal) cs w) (lone fr cs w') ∧ fr.fn = f ∧ fr.leaving P w' (.returned v') := by
        intro x s1 hr hl hx
        obtain ⟨β1, a1, w1, e1, e2, e3, e4⟩ := key x s1 hr
        rw [henter]
        rcases hx with rfl | rfl
        · obtain ⟨v', w', fr', g1, g2, g3, g4, g5⟩ := leave_ok hfn e3.tm s1.df s1.V w1 a1.defers { b.atR a1 [] with mode := .returning } (cs := cs) hl e2 e3.df rfl rfl rfl rfl rfl
          exact ⟨β1, v', w', fr', e1, g1, g2, Steps.trans e4 (.head (stepR_end rfl) g3), g4, g5⟩
        · obtain ⟨k', e4⟩ := e4
          obtain ⟨v', w', fr', g1, g2, g3, g4, g5⟩ := leave_ok hfn e3.tm s1.df s1.V w1 a1.defers { b.atR a1 (.code .ret :: k') with mode := .returning } (cs := cs) hl e2 e3.df rfl rfl rfl rfl rfl
          exact ⟨β1, v', w', fr', e1, g1, g2, Steps.trans e4 (.head (stepR_ret rfl) g3), g4, g5⟩
      unfold startGo at hp
      split at hp
      · rename_i s1 hr; exact fin _ s1 hr hp (.inl rfl)
      · rename_i s1 hr; exact fin _ s1 hr hp (.inr rfl)
      · cases hp
      · cases hp
    · cases hp
  · cases hp

theorem setL_tr {nt : Nat} : ∀ (ps : List Tmp) (args args' : List Value) (tm : T Value) (tmps : Array Value), VRs β args args' → TR β nt tm tmps → ps.length = args.length → (ps.all fun t => Nat.blt t nt && Nat.blt t top) = true →
    TR β nt (roundGo.setL tm ps args) ((ps.zip args').foldl (fun tmps (t, a) => tmps.setIfInBounds t a) tmps)
  | [], [], _, tm, tmps, .nil, hT, _, _ => hT
  | [], _ :: _, _, _, _, _, _, h, _ => by simp at h
  | _ :: _, [], _, _, _, _, _, h, _ => by simp at h
  | t :: ps, v :: args, _, tm, tmps, .cons hv hvs, hT, h, hall => by
    simp only [List.all_cons, Bool.and_eq_true] at hall
    obtain ⟨⟨h1, h2⟩, h3⟩ := hall
    have := setL_tr ps args _ (tm.set 21 t v) (tmps.setIfInBounds t _) hvs (hT.put (blt_lt h1) (blt_lt h2) hv) (by simpa using h) h3
    simpa [roundGo.setL] using this

/-- A round. -/
theorem round_good {rec : Rec} (hG : Good P G rec) (l : Nat) (args : List Value) (V : VW) : RoundOk P G (roundGo rec l args V) l args V := by
  intro v V' hp B β w args' l' hB hW hA hl
  unfold roundGo at hp
  split at hp
  · rename_i pend0 fn nt tm ps as bd hg
    obtain ⟨cp, sh, o', e1, e2, e3⟩ := hl.obj hW hg nofun
    cases e3 with
    | @loop _ _ _ _ _ tmps _ _ _ d' hT hk =>
      obtain ⟨hka, hkb, _⟩ := hk
      split at hp
      · cases hp
      · rename_i hcond
        simp only [Bool.or_eq_true, Bool.not_eq_true', not_or, Bool.not_eq_false] at hcond
        obtain ⟨⟨hlen, hfl⟩, hall⟩ := hcond
        have hlen : ps.toList.length = args.length := by simpa using hlen
        have hfl := Nat.le_of_ble_eq_true hfl
        refine ⟨_, e2, by rw [hA.length, ← hlen]; simp, fun c cs => ?_⟩
        let bf : Frame := { fn := fn, tmps := #[], todo := [], defers := [], mode := .run, kind := .normal, roundOf := some l' }
        have hz : (ps.zip (⟨args'⟩ : Array Value)) = ⟨ps.toList.zip args'⟩ := by apply Array.ext'; simp
        have hfold : ((ps.zip (⟨args'⟩ : Array Value)).foldl (fun tmps (t, a) => tmps.setIfInBounds t a) tmps) = (ps.toList.zip args').foldl (fun tmps (t, a) => tmps.setIfInBounds t a) tmps := by
          rw [hz]; simp
        have hT1 := setL_tr ps.toList args args' tm tmps hA hT hlen hall
        have hround : Frame.round l' fn ((ps.zip (⟨args'⟩ : Array Value)).foldl (fun tmps (t, a) => tmps.setIfInBounds t a) tmps) as bd .normal =
            bf.atR ⟨(ps.toList.zip args').foldl (fun tmps (t, a) => tmps.setIfInBounds t a) tmps, []⟩ ([.code as] ++ [.beginRound, .code bd]) := by
          rw [hfold]; rfl
        have hF : ∀ β1, Ext β β1 → Frm β1 ⟨fn, nt, some l⟩ bf := fun β1 hx => ⟨rfl, rfl, fun hh => (by cases hh), fun l0 hl0 => (by cases hl0; exact ⟨l', rfl, hl.mono hx⟩)⟩
        split at hp
        · rename_i s1 hr1
          obtain ⟨β1, a1, w1, f1, f2, f3, f4⟩ := hG.code as ⟨fn, nt, some l⟩ ⟨roundGo.setL tm ps.toList args, V, []⟩ hka _ s1 hr1 B β ⟨(ps.toList.zip args').foldl (fun tmps (t, a) => tmps.setIfInBounds t a) tmps, []⟩ w bf [.beginRound, .code bd] (c :: cs) hB hW ⟨hT1, .nil⟩ (hF β (.refl _))
          split at hp
          · rename_i pend1 fn1 nt1 tm1 ps1 as1 bd1 hg1
            split at hp
            · cases hp
            · rename_i hfl1
              have hfl1 : s1.V.floor ≤ l := by simpa using hfl1
              obtain ⟨cp1, sh1, o1, g1, g2, g3⟩ := (hl.mono f1).obj f2 hg1 nofun
              cases g3 with
              | @loop _ _ _ _ _ tmps1 _ _ _ d1 hT1' hk1 =>
                have hbegin := run_beginRound (P := P) g2 rfl
                have hW2 := f2.put (o := .loop .busy pend1 fn1 nt1 tm1 ps1 as1 bd1) g1 hfl1 (.loop (d' := d1) hT1' hk1)
                have key := fun x s2 hr => hG.code bd ⟨fn, nt, some l⟩ { s1 with V := s1.V.put l (.loop .busy pend1 fn1 nt1 tm1 ps1 as1 bd1) } hkb x s2 hr B β1 a1 _ bf [] (c :: cs) hB hW2 ⟨f3.tm, f3.df⟩ (hF β1 f1)
                have hstart : Steps P (lone (Frame.round l' fn ((ps.zip (⟨args'⟩ : Array Value)).foldl (fun tmps (t, a) => tmps.setIfInBounds t a) tmps) as bd .normal) (c :: cs) w)
                    (lone (bf.atR a1 ([.code bd] ++ [])) (c :: cs) (w1.putObj l' (.loop { state := .busy, pending := pend1, fn := fn1, tmps := tmps1, params := ps1, assign := as1, body := bd1, defers := d1 }))) := by
                  rw [hround]
                  exact Steps.trans f4 (.one (stepR_beginRound rfl hbegin))
                unfold roundGo.endGo at hp
                split at hp
                · rename_i x s2 hr2
                  obtain ⟨β2, a2, w2, k1, k2, k3, k4⟩ := key x s2 hr2
                  split at hp
                  · rename_i st2 pend2 fn2 nt2 tm2 ps2 as2 bd2 hg2
                    split at hp
                    · cases hp
                    · rename_i hfl2
                      have hfl2 : s2.V.floor ≤ l := by simpa using hfl2
                      obtain ⟨cp2, sh2, o2, m1, m2, m3⟩ := ((hl.mono f1).mono k1).obj k2 hg2 nofun
                      cases m3 with
                      | @loop _ _ _ _ _ tmps2 _ _ _ d2 hT2 hk2 =>
                        obtain ⟨hk2a, hk2b, _⟩ := hk2
                        have hend : ∀ jump, (Instr.endRound l' jump).run P w2 = .ok (.bool jump.isNone) (w2.putObj l' (.loop { state := if jump.isNone then .ready else .done, pending := jump, fn := fn2, tmps := tmps2, params := ps2, assign := as2, body := bd2, defers := d2 })) := fun jump => run_endRound (P := P) jump m2
                        have out : ∀ jump : Option Code, (∀ c', jump = some c' → OkC P fn2 c') → WR P B β2 (s2.V.put l (.loop (if jump.isNone then .ready else .done) jump fn2 nt2 tm2 ps2 as2 bd2)) (w2.putObj l' (.loop { state := if jump.isNone then .ready else .done, pending := jump, fn := fn2, tmps := tmps2, params := ps2, assign := as2, body := bd2, defers := d2 })) :=
                          fun jump hj => k2.put m1 hfl2 (.loop hT2 ⟨hk2a, hk2b, hj⟩)
                        cases x with
                        | normal =>
                          cases hp
                          exact ⟨β2, .bool true, _, f1.trans k1, out none (fun _ h => by cases h), .atom rfl, hstart.trans (Steps.trans k4 (.one (stepR_round_end rfl rfl (hend none))))⟩
                        | ret =>
                          cases hp
                          obtain ⟨k', k4⟩ := k4
                          exact ⟨β2, .bool false, _, f1.trans k1, out (some .ret) (fun _ h => by cases h; exact OkC.ret), .atom rfl, hstart.trans (Steps.trans k4 (.one (stepR_round_ret rfl rfl (hend (some .ret)))))⟩
                        | exit i =>
                          cases hp
                          obtain ⟨k', k5, k4⟩ := k4
                          exact ⟨β2, .bool false, _, f1.trans k1, out (some (.exit i)) (fun _ h => by cases h; exact OkC.exit), .atom rfl, hstart.trans (Steps.trans k4 (.one (stepR_round_exit rfl rfl (by rw [k5]; rfl) (hend (some (.exit i))))))⟩
                        | goto i =>
                          cases hp
                          obtain ⟨k', k5, k4⟩ := k4
                          exact ⟨β2, .bool false, _, f1.trans k1, out (some (.goto i)) (fun _ h => by cases h; exact OkC.goto), .atom rfl, hstart.trans (Steps.trans k4 (.one (stepR_round_goto rfl rfl (by rw [k5]; rfl) (hend (some (.goto i))))))⟩
                  · cases hp
                · cases hp
                · cases hp
          · cases hp
        · cases hp
        · cases hp
  · cases hp

/-! ### A range over a function -/
theorem run_enterLoop_inner {l : Nat} {r : Loop} (h : w.heap[l]? = some (.loop r)) (fn : FuncId) (tmps : Array Value) (ps : Array Tmp) (assign body : Code) :
    (Instr.enterLoop fn tmps ps assign body (some l)).run P w =
      .ok (w.heap.size, []) (w.alloc (.loop { state := .ready, pending := none, fn, tmps, params := ps, assign, body, defers := r.defers })) := by
  unfold Instr.enterLoop
  simp only [Sem.run_bind, run_getLoop h, run_newObj_alloc, Result.andThen, Sem.run_pure]

theorem stepR_range {b : Frame} {a : Act} {k : List Item} {cs : List Frame} {f : Operand} {ps : Array Tmp} {as body : Code} {l g : Nat} {mark : List Deferred} {w1 : World} {first captured : Array Value}
    (hl : (Instr.enterLoop b.fn a.tmps ps as body b.roundOf).run P w = .ok (l, mark) w1) (hf : a.eval f = .func (.func g) first captured)
    (hr : ∀ args, (callFunc g args).run P w1 = .ok (.enter g args) w1) :
    step P (lone (b.atR a (.code (.rangeFunc f ps as body) :: k)) cs w) =
      .next (lone (Frame.enter P g ((first ++ #[.func (.yield l) #[] #[]]) ++ captured) .normal) (b.atR ⟨a.tmps, mark ++ a.defers⟩ (.inRangeFunc l :: k) :: cs) w1) := by
  have he : ({ fn := b.fn, tmps := a.tmps, todo := Item.inRangeFunc l :: k, defers := mark ++ a.defers, mode := .run, kind := b.kind, roundOf := b.roundOf } : Frame).eval = a.eval := Frame.eval_atR b ⟨a.tmps, mark ++ a.defers⟩ (.inRangeFunc l :: k)
  have hsem : (do let d ← resolve a.eval { callee := .value f, args := #[.const (.func (.yield l) #[] #[])], argTypes := #[] } 0; invoke d.target d.args : Sem Next).run P w1 = .ok (.enter g ((first ++ #[.func (.yield l) #[] #[]]) ++ captured)) w1 := by
    have hm : (#[.const (.func (.yield l) #[] #[])] : Array Operand).map a.eval = #[.func (.yield l) #[] #[]] := by simp [Act.eval]
    simp only [resolve, hm, hf, Deferred.ofValue, Sem.run_bind, Sem.run_pure, Result.andThen_ok, invoke]
    exact hr _
  refine step_lone_go ?_
  simp only [stepG, stepG.exec, Frame.atR, Sem.runT_eq, hl]
  simp only [stepG.apply, he, Sem.runT_eq, hsem]
  simp

theorem stepR_endRange {b : Frame} {a : Act} {k : List Item} {cs : List Frame} {l : Nat} {jump : Option Code} {w' : World} (h : (Instr.endLoop l).run P w = .ok jump w') :
    step P (lone (b.atR a (.endRangeFunc l :: k)) cs w) = .next (lone (b.atR a ((jump.map Item.code).toList ++ k)) cs w') :=
  step_lone_go (by simp [stepG, stepG.exec, Frame.atR, Sem.runT_eq, h])

theorem finish_range {b : Frame} {a : Act} {k : List Item} {l : Nat} {v : Value} : (b.atR a (.inRangeFunc l :: k)).finish v = b.atR a (.endRangeFunc l :: k) := by
  simp [Frame.finish, Frame.atR]

theorem rangeBack_ok {rec : Rec} (hG : Good P G rec) {E : Env} {s : St} {l l' : Nat} {df : List Nat} {r : R} {x : X} {s' : St} (hp : rangeBack rec E s l df r = .fall x s') :
    ∃ v V, r = .val v V ∧ ∀ (B : Base) (β : Nat → Ren) (w : World) (a : Act) (b : Frame) (k : List Item) (cs : List Frame), HB P G B → WR P B β V w → RoR β l l' → TR β E.nt s.tm a.tmps → DR β df a.defers → Frm β E b →
      ∃ β' a' w', Ext β β' ∧ WR P B β' s'.V w' ∧ SR β' E s' a' ∧ Way P (lone (b.atR a (.endRangeFunc l' :: k)) cs w) b k cs x a' w' := by
  unfold rangeBack at hp
  split at hp
  · rename_i v V
    refine ⟨v, V, rfl, fun B β w a b k cs hB hW hl hT hD hF => ?_⟩
    split at hp
    · rename_i st pend fn nt tm ps as bd hg
      split at hp
      · cases hp
      · rename_i hc
        simp only [Bool.or_eq_true, Bool.not_eq_true', not_or, Bool.not_eq_true, Bool.not_eq_false] at hc
        have hfl := Nat.le_of_ble_eq_true hc.1.2
        have hst : st ≠ .busy := fun hh => by subst hh; cases hc.1.1
        have hfn := Nat.eq_of_beq_eq_true hc.2
        obtain ⟨cp, sh, o', e1, e2, e3⟩ := hl.obj hW hg nofun
        cases e3 with
        | @loop _ _ _ _ _ tmps _ _ _ d' hT' hk =>
          have hend := run_endLoop (P := P) e2 hst
          have hW' := hW.put (o := .loop .exhausted pend fn nt tm ps as bd) e1 hfl (.loop (d' := d') hT' hk)
          split at hp
          · cases hp
            exact ⟨β, a, _, .refl _, hW', ⟨hT, hD⟩, .one (stepR_endRange hend)⟩
          · rename_i c
            obtain ⟨β', a', w', f1, f2, f3, f4⟩ := hG.code c E _ (hfn ▸ hk.2.2 c rfl) x s' hp B β a _ b k cs hB hW' ⟨hT, hD⟩ hF
            exact ⟨β', a', w', f1, f2, f3, .of_steps (.one (stepR_endRange hend)) f4⟩
    · cases hp
  · cases hp
  · cases hp

theorem range_good {rec : Rec} (hG : Good P G rec) {f : Operand} {ps : Array Tmp} {as bd : Code} {E : Env} {s : St} (hf : okO P f = true) (ha : OkC P E.fn as) (hb : OkC P E.fn bd) :
    CodeOk P G (rangeC f ps as bd rec P E s) [.code (.rangeFunc f ps as bd)] E s := by
  intro x s' he B β a w b k cs hB hW hS hF
  have hv := ev_ok hW hS.tm hf
  unfold rangeC at he
  split at he
  · rename_i g fa fc hev
    rw [hev] at hv
    have hfr : ∃ fa' fc', a.eval f = .func (.func g) ⟨fa'⟩ ⟨fc'⟩ ∧ VRs β fa fa' ∧ VRs β fc fc' := by
      obtain ⟨y, hy⟩ : ∃ y, a.eval f = y := ⟨_, rfl⟩
      rw [hy] at hv ⊢
      cases hv with
      | atom h =>
        cases fa with
        | nil => cases fc with
          | nil => exact ⟨[], [], rfl, .nil, .nil⟩
          | cons _ _ => simp [atom] at h
        | cons _ _ => simp [atom] at h
      | func _ h1 h2 => exact ⟨_, _, rfl, h1, h2⟩
    obtain ⟨fa', fc', hfe, h1, h2⟩ := hfr
    split at he
    · cases he
    · rename_i fx hfx
      obtain ⟨hfn, hbody, _, _⟩ := fnOf_spec hfx
      split at he
      · cases he
      · rename_i htop
        have htop : s.V.size + 1 < top := by
          have : Nat.blt (s.V.size + 1) top = true := by simpa using htop
          exact blt_lt this
        have harr : ∀ l, ((⟨fa'⟩ ++ #[.func (.yield l) #[] #[]]) ++ ⟨fc'⟩ : Array Value) = ⟨fa' ++ (.func (.yield l) ⟨[]⟩ ⟨[]⟩ :: fc')⟩ := fun l => by apply Array.ext'; simp
        split at he
        · rename_i hro
          -- outermost
          obtain ⟨v, V, hr, hgo⟩ := rangeBack_ok (l' := w.heap.size + 1) hG he
          obtain ⟨q1, q2⟩ := hW.alloc (by omega : s.V.size < top) 0 0 (o := .dfr false) (o' := .deferred (some [])) .dfr
          obtain ⟨q3, q4⟩ := q1.alloc (by show s.V.size + 1 < top; exact htop) 0 0 (o := .loop .ready none E.fn E.nt s.tm ps as bd)
            (o' := .loop { state := .ready, pending := none, fn := E.fn, tmps := a.tmps, params := ps, assign := as, body := bd, defers := w.heap.size }) (.loop (hS.tm.mono q2) ⟨ha, hb, fun _ hh => by cases hh⟩)
          have hx := q2.trans q4
          generalize hβ2 : upd (upd β s.V.size (.live w.heap.size 0 0)) (s.V.push (.dfr false)).size (.live (w.alloc (.deferred (some []))).heap.size 0 0) = β2 at q3 q4 hx
          have hsz : (w.alloc (.deferred (some []))).heap.size = w.heap.size + 1 := by simp
          have hl2 : β2 (s.V.size + 1) = .live (w.heap.size + 1) 0 0 := by rw [← hβ2, ← hsz]; exact upd_same _ _ _
          have hd2 : β2 s.V.size = .live w.heap.size 0 0 := by
            rw [← hβ2]; rw [upd_ne _ _ (by show s.V.size ≠ s.V.size + 1; omega)]; exact upd_same _ _ _
          have hyield : VR β2 (.func (.yield (s.V.size + 1)) ⟨[]⟩ ⟨[]⟩) (.func (.yield (w.heap.size + 1)) ⟨[]⟩ ⟨[]⟩) := .yield hl2
          rw [appL_eq] at hr
          obtain ⟨β3, v', w3, fr, e1, e2, e3, e4, _, e6⟩ := hG.call g _ _ v V hr B β2 _ _ hB q3 ((h1.mono hx).append (.cons hyield (h2.mono hx))) ⟨_, _, hfn, hbody⟩
            (b.atR ⟨a.tmps, [{ target := .collected w.heap.size, args := #[] }] ++ a.defers⟩ (.inRangeFunc (w.heap.size + 1) :: k) :: cs)
          have hent := run_enterLoop_outer (P := P) (w := w) b.fn a.tmps ps as bd
          rw [hF.fn] at hent
          have hstep := stepR_range (P := P) (b := b) (a := a) (k := k) (cs := cs) (f := f) (ps := ps) (as := as) (body := bd) (by rw [hF.fn, hF.none hro]; exact hent) hfe (fun args => run_callFunc hfx args)
          rw [harr] at hstep
          have hx3 := hx.trans e1
          have hDR : DR β3 (s.V.size :: s.df) ([{ target := .collected w.heap.size, args := #[] }] ++ a.defers) := .cons (RoR.mono e1 (.inl ⟨0, 0, hd2⟩)) (hS.df.mono hx3)
          obtain ⟨β4, a4, w4, g1, g2, g3, g4⟩ := hgo B β3 w3 ⟨a.tmps, [{ target := .collected w.heap.size, args := #[] }] ++ a.defers⟩ b k cs hB e2 (RoR.mono e1 (.inl ⟨0, 0, hl2⟩)) (hS.tm.mono hx3) hDR (hF.mono hx3)
          refine ⟨β4, a4, w4, hx3.trans g1, g2, g3, .of_steps (.head hstep (e4.trans (.one ?_))) g4⟩
          rw [← finish_range (v := v')]; exact step_leave_returned e6
        · rename_i l0 hro
          split at he
          · rename_i st0 pend0 fn0 nt0 tm0 ps0 as0 bd0 hg0
            obtain ⟨l0', hrf, hl0⟩ := hF.some l0 hro
            obtain ⟨cp0, sh0, o0, z1, z2, z3⟩ := hl0.obj hW hg0 nofun
            cases z3 with
            | @loop _ _ _ _ _ tmps0 _ _ _ d0 hT0 hk0 =>
              obtain ⟨v, V, hr, hgo⟩ := rangeBack_ok (l' := w.heap.size) hG he
              obtain ⟨q3, hx⟩ := hW.alloc (by omega : s.V.size < top) 0 0 (o := .loop .ready none E.fn E.nt s.tm ps as bd)
                (o' := .loop { state := .ready, pending := none, fn := E.fn, tmps := a.tmps, params := ps, assign := as, body := bd, defers := d0 }) (.loop hS.tm ⟨ha, hb, fun _ hh => by cases hh⟩)
              generalize hβ2 : upd β s.V.size (.live w.heap.size 0 0) = β2 at q3 hx
              have hl2 : β2 s.V.size = .live w.heap.size 0 0 := by rw [← hβ2]; exact upd_same _ _ _
              have hyield : VR β2 (.func (.yield s.V.size) ⟨[]⟩ ⟨[]⟩) (.func (.yield w.heap.size) ⟨[]⟩ ⟨[]⟩) := .yield hl2
              rw [appL_eq] at hr
              obtain ⟨β3, v', w3, fr, e1, e2, e3, e4, _, e6⟩ := hG.call g _ _ v V hr B β2 _ _ hB q3 ((h1.mono hx).append (.cons hyield (h2.mono hx))) ⟨_, _, hfn, hbody⟩
                (b.atR ⟨a.tmps, [] ++ a.defers⟩ (.inRangeFunc w.heap.size :: k) :: cs)
              have hent := run_enterLoop_inner (P := P) z2 b.fn a.tmps ps as bd
              rw [hF.fn] at hent
              have hstep := stepR_range (P := P) (b := b) (a := a) (k := k) (cs := cs) (f := f) (ps := ps) (as := as) (body := bd) (by rw [hF.fn, hrf]; exact hent) hfe (fun args => run_callFunc hfx args)
              rw [harr] at hstep
              have hx3 := hx.trans e1
              obtain ⟨β4, a4, w4, g1, g2, g3, g4⟩ := hgo B β3 w3 ⟨a.tmps, [] ++ a.defers⟩ b k cs hB e2 (RoR.mono e1 (.inl ⟨0, 0, hl2⟩)) (hS.tm.mono hx3) (hS.df.mono hx3) (hF.mono hx3)
              refine ⟨β4, a4, w4, hx3.trans g1, g2, g3, .of_steps (.head hstep (e4.trans (.one ?_))) g4⟩
              rw [← finish_range (v := v')]; exact step_leave_returned e6
          · cases he
  · cases he
end
end Go.Vx
