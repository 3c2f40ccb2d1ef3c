/-
  Says: Code: what a run of the machine here says of the model's. Operations in a frame; calls; regions in order. Calls, rounds of a loop over a function, and such loops. Regions whose operations come in any order: what stands in order. Regions whose operations come in any order: the run in their own order. Regions whose operations come in any order: the run in any order. Regions whose operations come in any order: one step of any order. Regions whose operations come in any order: a step. Regions whose operations come in any order: a load, a store, a new variable, whatever else. Regions whose operations come in any order: new variables, whatever else. Regions whose operations come in any order: the whole. The whole machine: what it says, a call does. Tables of what is known of calls. An index for tables. Tables that are reckoned: an entry for each number below a bound.
-/
import Derived.Test.YtpieoofkikjjjaaGreatDoorVx1
import Derived.AtR
set_option linter.unusedVariables false
set_option linter.unusedSimpArgs false
set_option linter.unusedSectionVars false
/-! Code: what a run of the machine here says of the model's. -/
namespace Go.Vx
variable [Syms]
variable [Keeps]
open Go.RowKit

/-- The other end of a loop, or of a block for deferred calls: there, or given up. -/
def RoR (β : Nat → Ren) (l l' : Nat) : Prop := (∃ cp sh, β l = .live l' cp sh) ∨ β l = .dead
theorem RoR.mono {β β' : Nat → Ren} (x : Ext β β') {l l' : Nat} : RoR β l l' → RoR β' l l'
  | .inl ⟨_, _, h⟩ => (x.live _ _ _ _ h).elim (fun h => .inl ⟨_, _, h⟩) .inr
  | .inr h => .inr (x.dead _ h)

inductive DR (β : Nat → Ren) : List Nat → List Deferred → Prop where
  | nil : DR β [] []
  | cons {k b : Nat} {l : List Nat} {l' : List Deferred} (h : RoR β k b) (t : DR β l l') : DR β (k :: l) ({ target := .collected b, args := #[] } :: l')
theorem DR.mono {β β' : Nat → Ren} (x : Ext β β') : ∀ {l : List Nat} {l' : List Deferred}, DR β l l' → DR β' l l'
  | _, _, .nil => .nil
  | _, _, .cons h t => .cons (h.mono x) (t.mono x)

structure SR (β : Nat → Ren) (E : Env) (s : St) (a : Act) : Prop where
  tm : TR β E.nt s.tm a.tmps
  df : DR β s.df a.defers
theorem SR.mono {β β' : Nat → Ren} (x : Ext β β') {E : Env} {s : St} {a : Act} (h : SR β E s a) : SR β' E s a := ⟨h.tm.mono x, h.df.mono x⟩

structure Frm (β : Nat → Ren) (E : Env) (b : Frame) : Prop where
  fn : b.fn = E.fn
  kind : b.kind = .normal
  none : E.ro = none → b.roundOf = none
  some : ∀ l, E.ro = some l → ∃ l', b.roundOf = some l' ∧ RoR β l l'
theorem Frm.mono {β β' : Nat → Ren} (x : Ext β β') {E : Env} {b : Frame} (h : Frm β E b) : Frm β' E b :=
  ⟨h.fn, h.kind, h.none, fun l e => let ⟨l', h1, h2⟩ := h.some l e; ⟨l', h1, h2.mono x⟩⟩

/-- How the machine comes out of a piece of code. -/
def Way (P : Program) (m : Machine) (b : Frame) (k : List Item) (cs : List Frame) : X → Act → World → Prop
  | .normal, a, w => Steps P m (lone (b.atR a k) cs w)
  | .exit id, a, w => ∃ k', exitTo id k' = exitTo id k ∧ Steps P m (lone (b.atR a (.code (.exit id) :: k')) cs w)
  | .goto l, a, w => ∃ k', gotoIn l k' = gotoIn l k ∧ Steps P m (lone (b.atR a (.code (.goto l) :: k')) cs w)
  | .ret, a, w => ∃ k', Steps P m (lone (b.atR a (.code .ret :: k')) cs w)

theorem Way.of_steps {P : Program} {m m1 : Machine} {b : Frame} {k : List Item} {cs : List Frame} {x : X} {a : Act} {w : World} (h : Steps P m m1) (h' : Way P m1 b k cs x a w) : Way P m b k cs x a w := by
  cases x with
  | normal => exact h.trans h'
  | exit id => obtain ⟨k', e, s⟩ := h'; exact ⟨k', e, h.trans s⟩
  | goto l => obtain ⟨k', e, s⟩ := h'; exact ⟨k', e, h.trans s⟩
  | ret => obtain ⟨k', s⟩ := h'; exact ⟨k', h.trans s⟩

/-- What lies between changes nothing for those that leave. -/
theorem Way.pass {P : Program} {m : Machine} {b : Frame} {i : Item} {k : List Item} {cs : List Frame} {x : X} {a : Act} {w : World} (hi : i.plain = true) (hx : x ≠ .normal) (h : Way P m b (i :: k) cs x a w) : Way P m b k cs x a w := by
  cases x with
  | normal => exact absurd rfl hx
  | exit id => obtain ⟨k', e, s⟩ := h; exact ⟨k', e.trans (by cases i <;> first | rfl | (cases hi)), s⟩
  | goto l => obtain ⟨k', e, s⟩ := h; exact ⟨k', e.trans (by cases i <;> first | rfl | (cases hi)), s⟩
  | ret => exact h

section
variable {P : Program}

theorem stepR_scope {b : Frame} {a : Act} {k : List Item} {cs : List Frame} {w : World} {c : Code} : step P (lone (b.atR a (.code (.scope c) :: k)) cs w) = .next (lone (b.atR a (.code c :: .inScope c :: k)) cs w) :=
  step_lone_go (by simp [stepG, stepG.exec, Frame.atR])
theorem stepR_inScope {b : Frame} {a : Act} {k : List Item} {cs : List Frame} {w : World} {c : Code} : step P (lone (b.atR a (.inScope c :: k)) cs w) = .next (lone (b.atR a k) cs w) :=
  step_lone_go (by simp [stepG, stepG.exec, Frame.atR])

/-- Which bases are meant: the globals hold what they hold. -/
def HB (P : Program) (G : VW) (B : Base) : Prop := (∀ g, g < P.globals.size → B.V0.heap.get g = G.heap.get g) ∧ Keeps.inv B.w0

def CodeOk (P : Program) (G : VW) (r : R) (items : List Item) (E : Env) (s : St) : Prop :=
  ∀ x s', r = .fall x s' → ∀ (B : Base) (β : Nat → Ren) (a : Act) (w : World) (b : Frame) (k : List Item) (cs : List Frame), HB P G B → WR P B β s.V w → SR β E s a → Frm β E b →
    ∃ β' a' w', Ext β β' ∧ WR P B β' s'.V w' ∧ SR β' E s' a' ∧ Way P (lone (b.atR a (items ++ k)) cs w) b k cs x a' w'

def CallOk (P : Program) (G : VW) (r : R) (f : FuncId) (args : List Value) (V : VW) : Prop :=
  ∀ v V', r = .val v V' → ∀ (B : Base) (β : Nat → Ren) (w : World) (args' : List Value), HB P G B → WR P B β V w → VRs β args args' →
    (∃ fn c, P.funcs[f]? = some fn ∧ fn.body = some c) → ∀ cs,
    ∃ β' v' w' fr, Ext β β' ∧ WR P B β' V' w' ∧ VR β' v v' ∧ Steps P (lone (Frame.enter P f ⟨args'⟩ .normal) cs w) (lone fr cs w') ∧ fr.fn = f ∧ fr.leaving P w' (.returned v')

def RoundOk (P : Program) (G : VW) (r : R) (l : Nat) (args : List Value) (V : VW) : Prop :=
  ∀ v V', r = .val v V' → ∀ (B : Base) (β : Nat → Ren) (w : World) (args' : List Value) (l' : Nat), HB P G B → WR P B β V w → VRs β args args' → RoR β l l' →
    ∃ lp, w.heap[l']? = some (.loop lp) ∧ args'.length = lp.params.size ∧ ∀ c cs, ∃ β' v' w', Ext β β' ∧ WR P B β' V' w' ∧ VR β' v v' ∧
      Steps P (lone (Frame.round l' lp.fn ((lp.params.zip ⟨args'⟩).foldl (fun tmps (t, a) => tmps.setIfInBounds t a) lp.tmps) lp.assign lp.body .normal) (c :: cs) w) (lone (c.finish v') cs w')

/-! ### From a world in which the tables lie -/
section
variable {G : VW}
def glR (N : Nat) : Nat → Ren := fun x => if x < N then .live x 0 0 else .fresh
/-- Tables: rows of atoms that nothing writes. -/
structure Tabs (P : Program) (G : VW) : Prop where
  cells : ∀ g, g < P.globals.size → (∃ c e, G.heap.get g = some (.cells c e true) ∧ c.all atom = true) ∨ G.heap.get g = some (.dfr true)
  rest : ∀ g, P.globals.size ≤ g → G.heap.get g = none
  top : P.globals.size ≤ top

/-- They lie there. -/
def Lies (P : Program) (G : VW) (w : World) : Prop := (∀ g, g < P.globals.size → (∃ c e fr post, G.heap.get g = some (.cells c e true) ∧ w.heap[g]? = some (.cells ⟨c ++ post⟩ e fr)) ∨ (G.heap.get g = some (.dfr true) ∧ g < w.heap.size)) ∧ Keeps.inv w

theorem lies_of {B : Base} {β : Nat → Ren} {V : VW} {w : World} (hT : Tabs P G) (hB : HB P G B) (hW : WR P B β V w) : Lies P G w := by
  refine ⟨fun g hg => ?_, Keeps.keep _ _ hB.2 hW.base⟩
  obtain ⟨o, o', g1, g2, g3⟩ := hW.obj g g 0 0 (hW.glob g hg)
  rcases hT.cells g hg with ⟨c, e, h1, h2⟩ | h1
  rotate_left
  · exact .inr ⟨h1, block_lt g2⟩
  refine .inl ?_
  have : V.heap.get g = some (.cells c e true) := by
    rw [hW.keep g (Nat.lt_of_lt_of_le hg hW.gfl), hB.1 g hg, h1]
  rw [this] at g1; cases g1
  obtain ⟨pre, mid, post, fr, rfl, hp, hr, _, _⟩ := g3.inv
  have hpre : pre = [] := List.eq_nil_of_length_eq_zero hp
  subst hpre
  have := hr.of_atoms h2
  subst this
  exact ⟨_, e, fr, post, h1, g2⟩

theorem start_ok (hT : Tabs P G) {w : World} (hL : Lies P G w) :
    WR P ⟨w, ⟨G.heap, P.globals.size, P.globals.size⟩, glR P.globals.size, w, fun _ => False⟩ (glR P.globals.size) ⟨G.heap, P.globals.size, P.globals.size⟩ w := by
  have hlive : ∀ i b cp sh, glR P.globals.size i = .live b cp sh → i < P.globals.size ∧ b = i ∧ cp = 0 ∧ sh = 0 := fun i b cp sh h => by
    unfold glR at h
    split at h
    · rename_i hi; cases h; exact ⟨hi, rfl, rfl, rfl⟩
    · cases h
  refine ⟨fun g hg => if_pos hg, Nat.le_refl _, Nat.le_refl _, hT.top, fun i hi => if_neg (by have : P.globals.size ≤ i := hi; omega), fun i b cp sh h => ?_, fun i h => ?_, fun i j b cp sh cp' sh' h1 h2 => ?_, fun i b cp sh h hi => ?_, fun _ _ => rfl, rfl, fun _ _ => rfl, Nat.le_refl _, .refl _ _, fun _ h => h.elim, fun _ _ h => ⟨h, rfl⟩, fun i o ho => ?_⟩
  · obtain ⟨hi, rfl, rfl, rfl⟩ := hlive _ _ _ _ h
    rcases hL.1 _ hi with ⟨c, e, fr, post, h1, h2⟩ | ⟨h1, h2⟩
    rotate_left
    · exact ⟨_, _, h1, Array.getElem?_eq_getElem h2, .dfrT⟩
    rcases hT.cells _ hi with ⟨c', e', h3, h4⟩ | h3
    rotate_left
    · rw [h1] at h3
      cases h3
    rw [h1] at h3; cases h3
    exact ⟨_, _, h1, h2, ObjR.cells (pre := []) rfl (VRs.atoms h4) (by simp) (fun h => by cases h)⟩
  · unfold glR at h; split at h <;> cases h
  · obtain ⟨_, rfl, _, _⟩ := hlive _ _ _ _ h1
    obtain ⟨_, rfl, _, _⟩ := hlive _ _ _ _ h2
    rfl
  · have := (hlive _ _ _ _ h).1
    have hi : P.globals.size ≤ i := hi
    omega
  · have ho : G.heap.get i = some o := ho
    rcases Nat.lt_or_ge i P.globals.size with h | h
    · rcases hT.cells i h with ⟨c, e, h1, h2⟩ | h1
      rotate_left
      · rw [h1] at ho
        cases ho
        exact .dead P _
      rw [h1] at ho; cases ho
      exact ⟨fun _ => .fresh, 0, 0, .cells ⟨[] ++ (c ++ [])⟩ e (0, 0), fun _ _ => rfl, ObjR.cells (pre := []) rfl (VRs.atoms h2) (by simp) (fun h => by cases h)⟩
    · rw [hT.rest i h] at ho; cases ho

/-- A call that comes back with a value, and turns nothing that is there. -/
def Known (P : Program) (G : VW) (f : FuncId) (args : List Value) (v : Value) : Prop :=
  ∀ w, Lies P G w → ∀ cs, ∃ w' fr, Steps P (lone (Frame.enter P f ⟨args⟩ .normal) cs w) (lone fr cs w') ∧ fr.fn = f ∧ fr.leaving P w' (.returned v) ∧ Below w.heap.size w w'

end
/-- What a call from the tables alone says. -/
def BaseOk (P : Program) (G : VW) (r : R) (f : FuncId) (args : List Value) : Prop :=
  ∀ v V', r = .val v V' → args.all flat = true → flat v = true → (∃ fn c, P.funcs[f]? = some fn ∧ fn.body = some c) → Known P G f args v

structure Good (P : Program) (G : VW) (rec : Rec) : Prop where
  code : ∀ c E s, OkC P E.fn c → CodeOk P G (rec (.code c E s)) [.code c] E s
  again : ∀ c E s, OkC P E.fn (.loop c) → CodeOk P G (rec (.again c E s)) [.inLoop c] E s
  inside : ∀ b c E s, OkC P E.fn b → OkC P E.fn c → CodeOk P G (rec (.inside b c E s)) [.code c, .inScope b] E s
  call : ∀ f args V, CallOk P G (rec (.call f args V)) f args V
  round : ∀ l args V, RoundOk P G (rec (.round l args V)) l args V
  base : ∀ f args, BaseOk P G (rec (.base f args)) f args

/-! ### The simple ones -/
variable {G : VW}

theorem CodeOk.fall {items : List Item} {E : Env} {s : St} {x : X} (h : ∀ (a : Act) (w : World) (b : Frame) (k : List Item) (cs : List Frame), Way P (lone (b.atR a (items ++ k)) cs w) b k cs x a w) : CodeOk P G (.fall x s) items E s := by
  intro x' s' he B β a w b k cs _ hW hS _
  cases he
  exact ⟨β, a, w, .refl _, hW, hS, h a w b k cs⟩

/-- First the one, then the other. -/
theorem CodeOk.then {r : R} {K : St → R} {items items1 items2 : List Item} {E : Env} {s : St}
    (hstart : ∀ (a : Act) (w : World) (b : Frame) (k : List Item) (cs : List Frame), Steps P (lone (b.atR a (items ++ k)) cs w) (lone (b.atR a (items1 ++ (items2 ++ k))) cs w))
    (h1 : CodeOk P G r items1 E s) (h2 : ∀ s1, r = .fall .normal s1 → CodeOk P G (K s1) items2 E s1)
    (hp : ∀ {m : Machine} {b : Frame} {k : List Item} {cs : List Frame} {x : X} {a : Act} {w : World}, x ≠ .normal → Way P m b (items2 ++ k) cs x a w → Way P m b k cs x a w) :
    CodeOk P G (thenN K r) items E s := by
  intro x s' he B β a w b k cs hB hW hS hF
  have key : ∀ x1 s1, r = .fall x1 s1 → ∃ β' a' w', Ext β β' ∧ WR P B β' s1.V w' ∧ SR β' E s1 a' ∧ Way P (lone (b.atR a (items1 ++ (items2 ++ k))) cs w) b (items2 ++ k) cs x1 a' w' :=
    fun x1 s1 hr => h1 x1 s1 hr B β a w b (items2 ++ k) cs hB hW hS hF
  have out : ∀ x1 s1, r = .fall x1 s1 → x1 ≠ .normal → x1 = x → s1 = s' → ∃ β' a' w', Ext β β' ∧ WR P B β' s'.V w' ∧ SR β' E s' a' ∧ Way P (lone (b.atR a (items ++ k)) cs w) b k cs x a' w' := by
    rintro x1 s1 hr hne rfl rfl
    obtain ⟨β', a', w', e1, e2, e3, e4⟩ := key x1 s1 hr
    exact ⟨β', a', w', e1, e2, e3, .of_steps (hstart a w b k cs) (hp hne e4)⟩
  unfold thenN at he
  split at he
  · rename_i s1
    obtain ⟨β1, a1, w1, e1, e2, e3, e4⟩ := key _ _ rfl
    obtain ⟨β2, a2, w2, f1, f2, f3, f4⟩ := h2 _ rfl x s' he B β1 a1 w1 b k cs hB e2 e3 (hF.mono e1)
    exact ⟨β2, a2, w2, e1.trans f1, f2, f3, .of_steps (hstart a w b k cs) (.of_steps e4 f4)⟩
  · cases he; exact out _ _ rfl (by simp) rfl rfl
  · cases he; exact out _ _ rfl (by simp) rfl rfl
  · cases he; exact out _ _ rfl (by simp) rfl rfl
  · cases he
  · cases he

theorem TR.get {β : Nat → Ren} {nt : Nat} {tm : T Value} {tmps : Array Value} (h : TR β nt tm tmps) (t : Nat) : VR β (tget tm t) (tmps.getD t undef) := h.2 t

/-- An operand. -/
theorem ev_ok {β : Nat → Ren} {B : Base} {V : VW} {w : World} (hW : WR P B β V w) {E : Env} {s : St} {a : Act} (hS : TR β E.nt s.tm a.tmps) {x : Operand} (hx : okO P x = true) : VR β (ev s.tm x) (a.eval x) := by
  cases x with
  | tmp t => exact hS.2 t
  | const v => exact VR.flat hx
  | global g =>
    have := hW.glob g (blt_lt hx)
    exact VR.ptr (o := 0) this
  | func f => exact .atom rfl

theorem OkC.one {f : FuncId} {c x : Code} (h : OkC P f c) (ho : okCode P x = true) (hl : ∀ y ∈ loopsC x, y ∈ loopsC c) : OkC P f x := ⟨ho, fun y hy => h.2 y (hl y hy)⟩
theorem OkC.body {f : FuncId} {c : Code} (h : OkC P f (.loop c)) : OkC P f c := h.one h.1 fun y hy => List.mem_cons_of_mem _ hy
theorem OkC.seq {f : FuncId} {a b : Code} (h : OkC P f (.seq a b)) : OkC P f a ∧ OkC P f b := by
  have h1 := h.1
  simp only [okCode, Bool.and_eq_true] at h1
  exact ⟨h.one h1.1 fun y hy => List.mem_append_left _ hy, h.one h1.2 fun y hy => List.mem_append_right _ hy⟩
theorem OkC.cond {f : FuncId} {o : Operand} {a b : Code} (h : OkC P f (.cond o a b)) : okO P o = true ∧ OkC P f a ∧ OkC P f b := by
  have h1 := h.1
  simp only [okCode, Bool.and_eq_true] at h1
  exact ⟨h1.1.1, h.one h1.1.2 fun y hy => List.mem_append_left _ hy, h.one h1.2 fun y hy => List.mem_append_right _ hy⟩
theorem OkC.range {f : FuncId} {o : Operand} {ps : Array Tmp} {a b : Code} (h : OkC P f (.rangeFunc o ps a b)) : okO P o = true ∧ OkC P f a ∧ OkC P f b := by
  have h1 := h.1
  simp only [okCode, Bool.and_eq_true] at h1
  exact ⟨h1.1.1, h.one h1.1.2 fun y hy => List.mem_append_left _ hy, h.one h1.2 fun y hy => List.mem_append_right _ hy⟩
theorem OkC.ret {f : FuncId} : OkC P f .ret := ⟨rfl, fun y hy => by cases hy⟩
theorem OkC.exit {f : FuncId} {i : Nat} : OkC P f (.exit i) := ⟨rfl, fun y hy => by cases hy⟩
theorem OkC.goto {f : FuncId} {i : Nat} : OkC P f (.goto i) := ⟨rfl, fun y hy => by cases hy⟩
theorem loop_good {rec : Rec} (hG : Good P G rec) {c : Code} {E : Env} {s : St} (hc : OkC P E.fn (.loop c)) {items : List Item}
    (hstart : ∀ (a : Act) (w : World) (b : Frame) (k : List Item) (cs : List Frame), Steps P (lone (b.atR a (items ++ k)) cs w) (lone (b.atR a ([.code c] ++ ([.inLoop c] ++ k))) cs w)) :
    CodeOk P G (loopC c rec P E s) items E s :=
  CodeOk.then hstart (hG.code c E s hc.body) (fun s1 _ => hG.again c E s1 hc) (fun hne h => Way.pass (i := .inLoop c) rfl hne h)

theorem findLabel_loops : ∀ (b : Code) (l : Nat) (rest : Code), findLabel b l = some rest → ∀ x ∈ loopsC rest, x ∈ loopsC b
  | .seq x y, l, rest, hf, z, hz => by
    unfold findLabel at hf
    split at hf
    · rename_i r hr
      cases hf
      rcases List.mem_append.1 hz with hz | hz
      · exact List.mem_append_left _ (findLabel_loops x l r hr z hz)
      · exact List.mem_append_right _ hz
    · exact List.mem_append_right _ (findLabel_loops y l rest hf z hz)
  | .label l', l, rest, hf, z, hz => by
    unfold findLabel at hf
    split at hf
    · cases hf; cases hz
    · cases hf
  | .skip, _, _, hf, _, _ => by cases hf
  | .region .., _, _, hf, _, _ => by cases hf
  | .cond .., _, _, hf, _, _ => by cases hf
  | .block .., _, _, hf, _, _ => by cases hf
  | .loop .., _, _, hf, _, _ => by cases hf
  | .rangeFunc .., _, _, hf, _, _ => by cases hf
  | .exit .., _, _, hf, _, _ => by cases hf
  | .scope .., _, _, hf, _, _ => by cases hf
  | .goto .., _, _, hf, _, _ => by cases hf
  | .ret, _, _, hf, _, _ => by cases hf
  | .refuse .., _, _, hf, _, _ => by cases hf
theorem findLabel_ok : ∀ (b : Code) (l : Nat) (rest : Code), okCode P b = true → findLabel b l = some rest → okCode P rest = true
  | .seq x y, l, rest, h, hf => by
    simp only [okCode, Bool.and_eq_true] at h
    unfold findLabel at hf
    split at hf
    · rename_i r hr
      cases hf
      simp only [okCode, Bool.and_eq_true]
      exact ⟨findLabel_ok x l r h.1 hr, h.2⟩
    · exact findLabel_ok y l rest h.2 hf
  | .label l', l, rest, h, hf => by
    unfold findLabel at hf
    split at hf
    · cases hf; rfl
    · cases hf
  | .skip, _, _, _, hf => by cases hf
  | .region .., _, _, _, hf => by cases hf
  | .cond .., _, _, _, hf => by cases hf
  | .block .., _, _, _, hf => by cases hf
  | .loop .., _, _, _, hf => by cases hf
  | .rangeFunc .., _, _, _, hf => by cases hf
  | .exit .., _, _, _, hf => by cases hf
  | .scope .., _, _, _, hf => by cases hf
  | .goto .., _, _, _, hf => by cases hf
  | .ret, _, _, _, hf => by cases hf
  | .refuse .., _, _, _, hf => by cases hf

theorem scope_good {rec : Rec} (hG : Good P G rec) {b0 c : Code} {E : Env} {s : St} (hb : OkC P E.fn b0) (hc : OkC P E.fn c) {items : List Item}
    (hstart : ∀ (a : Act) (w : World) (b : Frame) (k : List Item) (cs : List Frame), Steps P (lone (b.atR a (items ++ k)) cs w) (lone (b.atR a ([.code c] ++ (.inScope b0 :: k))) cs w)) :
    CodeOk P G (scopeC b0 c rec P E s) items E s := by
  intro x s' he B β a w b k cs hB hW hS hF
  have key := fun x1 s1 hr => hG.code c E s hc x1 s1 hr B β a w b (.inScope b0 :: k) cs hB hW hS hF
  unfold scopeC scopeBack at he
  split at he
  · rename_i l s1 hr
    obtain ⟨β1, a1, w1, e1, e2, e3, k', e4, e5⟩ := key _ _ hr
    split at he
    · rename_i rest hf
      obtain ⟨β2, a2, w2, f1, f2, f3, f4⟩ := hG.inside b0 rest E s1 hb (hb.one (findLabel_ok b0 l rest hb.1 hf) (findLabel_loops b0 l rest hf)) x s' he B β1 a1 w1 b k cs hB e2 e3 (hF.mono e1)
      refine ⟨β2, a2, w2, e1.trans f1, f2, f3, .of_steps (hstart a w b k cs) (.of_steps e5 (.of_steps (.one (stepR_goto (k' := .code rest :: .inScope b0 :: k) ?_)) f4))⟩
      rw [e4]; simp [gotoIn, hf]
    · rename_i hf
      cases he
      refine ⟨β1, a1, w1, e1, e2, e3, .of_steps (hstart a w b k cs) ⟨k', ?_, e5⟩⟩
      rw [e4]; simp [gotoIn, hf]
  · rename_i s1 hr
    cases he
    obtain ⟨β1, a1, w1, e1, e2, e3, e4⟩ := key _ _ hr
    exact ⟨β1, a1, w1, e1, e2, e3, (hstart a w b k cs).trans (Steps.trans e4 (.one stepR_inScope))⟩
  · rename_i i s1 hr
    cases he
    obtain ⟨β1, a1, w1, e1, e2, e3, k', e4, e5⟩ := key _ _ hr
    exact ⟨β1, a1, w1, e1, e2, e3, .of_steps (hstart a w b k cs) ⟨k', e4, e5⟩⟩
  · rename_i s1 hr
    cases he
    obtain ⟨β1, a1, w1, e1, e2, e3, k', e5⟩ := key _ _ hr
    exact ⟨β1, a1, w1, e1, e2, e3, .of_steps (hstart a w b k cs) ⟨k', e5⟩⟩
  · cases he
  · cases he

theorem block_good {rec : Rec} (hG : Good P G rec) {id : Nat} {c : Code} {E : Env} {s : St} (hc : OkC P E.fn c) : CodeOk P G (blockC id c rec P E s) [.code (.block id c)] E s := by
  intro x s' he B β a w b k cs hB hW hS hF
  have key := fun x1 s1 hr => hG.code c E s hc x1 s1 hr B β a w b (.inBlock id :: k) cs hB hW hS hF
  have hstart : Steps P (lone (b.atR a ([.code (.block id c)] ++ k)) cs w) (lone (b.atR a ([.code c] ++ (.inBlock id :: k))) cs w) := .one stepR_block
  unfold blockC blockBack at he
  split at he
  · rename_i i s1 hr
    obtain ⟨β1, a1, w1, e1, e2, e3, k', e4, e5⟩ := key _ _ hr
    split at he
    · rename_i hi
      have hi := Nat.eq_of_beq_eq_true hi
      subst hi
      cases he
      exact ⟨β1, a1, w1, e1, e2, e3, hstart.trans (e5.trans (.one (stepR_exit (by rw [e4]; simp [exitTo]))))⟩
    · rename_i hi
      cases he
      have hne : ¬ id = i := fun hh => by subst hh; simp at hi
      exact ⟨β1, a1, w1, e1, e2, e3, .of_steps hstart ⟨k', by rw [e4]; simp [exitTo, hne], e5⟩⟩
  · rename_i s1 hr
    cases he
    obtain ⟨β1, a1, w1, e1, e2, e3, e4⟩ := key _ _ hr
    exact ⟨β1, a1, w1, e1, e2, e3, hstart.trans (Steps.trans e4 (.one stepR_inBlock))⟩
  · rename_i l s1 hr
    cases he
    obtain ⟨β1, a1, w1, e1, e2, e3, k', e4, e5⟩ := key _ _ hr
    exact ⟨β1, a1, w1, e1, e2, e3, .of_steps hstart ⟨k', e4, e5⟩⟩
  · rename_i s1 hr
    cases he
    obtain ⟨β1, a1, w1, e1, e2, e3, k', e5⟩ := key _ _ hr
    exact ⟨β1, a1, w1, e1, e2, e3, .of_steps hstart ⟨k', e5⟩⟩
  · cases he
  · cases he

theorem cond_good {rec : Rec} (hG : Good P G rec) {c : Operand} {x y : Code} {E : Env} {s : St} (hc : okO P c = true) (hx : OkC P E.fn x) (hy : OkC P E.fn y) : CodeOk P G (condC c x y rec P E s) [.code (.cond c x y)] E s := by
  intro e s' he B β a w b k cs hB hW hS hF
  have hv := ev_ok hW hS.tm hc
  unfold condC at he
  have hb : ∀ t, boolOf (ev s.tm c) = some t → a.eval c = .bool t := fun t ht => by
    rw [show boolOf (ev s.tm c) = boolOf' (ev s.tm c) from by cases ev s.tm c <;> rfl] at ht
    unfold boolOf' at ht
    split at ht
    · rename_i hh; cases ht; rw [hh] at hv; exact hv.bool'
    · cases ht
  split at he
  · rename_i hh
    obtain ⟨β1, a1, w1, e1, e2, e3, e4⟩ := hG.code x E s hx e s' he B β a w b k cs hB hW hS hF
    exact ⟨β1, a1, w1, e1, e2, e3, .of_steps (.one (stepR_cond (t := true) (hb _ hh))) e4⟩
  · rename_i hh
    obtain ⟨β1, a1, w1, e1, e2, e3, e4⟩ := hG.code y E s hy e s' he B β a w b k cs hB hW hS hF
    exact ⟨β1, a1, w1, e1, e2, e3, .of_steps (.one (stepR_cond (t := false) (hb _ hh))) e4⟩
  · cases he
end
end Go.Vx
/-! Operations in a frame; calls; regions in order. -/
namespace Go.Vx
variable [Syms]
variable [Keeps]
open Go.RowKit

section
variable {P : Program} {G : VW} {B : Base} {β : Nat → Ren} {V : VW} {w : World}

theorem okT_lt {t n : Nat} (h : okT t n = true) : t < n ∧ t < top := by
  unfold okT at h
  cases h1 : Nat.ble (Nat.succ t) n with
  | false => rw [h1] at h; cases h
  | true =>
    rw [h1] at h
    exact ⟨Nat.le_of_ble_eq_true h1, Nat.le_of_ble_eq_true (show Nat.ble (Nat.succ t) 1048576 = true from h)⟩
theorem put_ok {E : Env} {d : Option Tmp} {v : Value} {s : St} {V' : VW} {x : X} {s' : St} (hp : putGo E d v s V' = .fall x s') :
    x = .normal ∧ s'.V = V' ∧ s'.df = s.df ∧ ((d = none ∧ s'.tm = s.tm) ∨ ∃ t, d = some t ∧ t < E.nt ∧ t < top ∧ s'.tm = s.tm.set 21 t v) := by
  cases d with
  | none => cases hp; exact ⟨rfl, rfl, rfl, .inl ⟨rfl, rfl⟩⟩
  | some t =>
    change Bool.rec (motive := fun _ => R) (badE 91 E) (putS t v s V') (okT t E.nt) = _ at hp
    cases hb : okT t E.nt with
    | false => rw [hb] at hp; cases hp
    | true =>
      rw [hb] at hp
      obtain ⟨h1, h2⟩ := okT_lt hb
      cases hp
      exact ⟨rfl, rfl, rfl, .inr ⟨t, rfl, h1, h2, rfl⟩⟩

theorem tget_set {tm : T Value} {t : Nat} (ht : t < top) (v : Value) (j : Nat) : tget (tm.set 21 t v) j = if j = t then v else tget tm j := by
  unfold tget
  rw [T.get_put _ _ _ ht]
  split <;> rfl

theorem getD_set {tmps : Array Value} {t : Nat} (ht : t < tmps.size) (v : Value) (j : Nat) : (tmps.setIfInBounds t v).getD j undef = if j = t then v else tmps.getD j undef := by
  simp only [Array.getD_eq_getD_getElem?, Array.getElem?_setIfInBounds]
  by_cases h : t = j
  · subst h; simp [ht]
  · have h' : ¬ j = t := fun e => h e.symm
    simp [h, h']

theorem TR.put {nt : Nat} {tm : T Value} {tmps : Array Value} (h : TR β nt tm tmps) {t : Nat} (h1 : t < nt) (h2 : t < top) {v v' : Value} (hv : VR β v v') : TR β nt (tm.set 21 t v) (tmps.setIfInBounds t v') :=
  ⟨by simp [h.1], fun j => by
    rw [tget_set h2, getD_set (by rw [h.1]; exact h1)]
    split
    · exact hv
    · exact h.2 j⟩

theorem SR.put {E : Env} {s s' : St} {a : Act} (h : SR β E s a) {d : Option Tmp} {v v' : Value} {V' : VW} {x : X} (hp : putGo E d v s V' = .fall x s') (hv : VR β v v') : SR β E s' (a.put d v') := by
  obtain ⟨_, _, hdf, h2⟩ := put_ok hp
  rcases h2 with ⟨rfl, htm⟩ | ⟨t, rfl, h3, h4, htm⟩
  · exact ⟨by rw [htm]; exact h.tm, by rw [hdf]; exact h.df⟩
  · exact ⟨by rw [htm]; exact h.tm.put h3 h4 hv, by rw [hdf]; exact h.df⟩

theorem VR.bool_inv {v : Value} {b : Bool} (h : VR β v (.bool b)) : v = .bool b := by
  generalize hu : Value.bool b = u at h
  cases h <;> first | (subst hu; rfl) | exact absurd hu.symm (Vals.nobool _ _) | (cases hu; done)

theorem want_ok {s : St} {a : Act} {ops : Array Oper} {o : Oper} (hS : ∀ t j wn, o.guard = some (j, wn) → (ops[j]?).bind (·.dst) = some t → VR β (tget s.tm t) (a.tmps.getD t undef)) : wantGo ops.toList o s.tm = Region.wanted o (yielded ops a.tmps) := by
  unfold Region.wanted
  cases hg : o.guard with
  | none => unfold wantGo; rw [hg]; rfl
  | some g =>
    obtain ⟨j, want⟩ := g
    have h1 : wantGo ops.toList o s.tm = Option.rec (motive := fun _ => Bool) false (fun t => boolIs want (tget s.tm t)) ((nthL ops.toList j).bind (·.dst)) := by
      unfold wantGo; rw [hg]; rfl
    rw [h1, nthL_eq, Array.getElem?_toList]
    show _ = (yielded ops a.tmps j == some want)
    unfold yielded
    cases hd : (ops[j]?).bind (·.dst) with
    | none => rfl
    | some t =>
      show boolIs want (tget s.tm t) = _
      have hv := hS t j want hg hd
      simp only [Option.bind_some]
      cases ht : a.tmps[t]? with
      | none =>
        have : a.tmps.getD t undef = undef := by simp [Array.getD_eq_getD_getElem?, ht]
        rw [this] at hv
        have hnb : ∀ b, tget s.tm t ≠ .bool b := fun b hb => by rw [hb] at hv; cases hv.bool'
        cases hx : tget s.tm t <;> first | rfl | (rename_i b; exact absurd hx (hnb b))
      | some u =>
        have hu : a.tmps.getD t undef = u := by simp [Array.getD_eq_getD_getElem?, ht]
        rw [hu] at hv
        cases hx : tget s.tm t with
        | bool b =>
          rw [hx] at hv
          rw [hv.bool']
          cases b <;> cases want <;> rfl
        | _ =>
          have hnb : ∀ b, u ≠ .bool b := fun b hb => by rw [hb] at hv; have := hv.bool_inv; rw [hx] at this; cases this
          cases u <;> first | rfl | (rename_i b; exact absurd rfl (hnb b))

/-! ### One operation -/
theorem stepR_value {b : Frame} {a : Act} {ops : Array Oper} {i : Nat} {rest : List Nat} {k : List Item} {cs : List Frame} {o : Oper} (ho : ops[i]? = some o) (hw : Region.wanted o (yielded ops a.tmps) = true)
    (hd : ∀ c, o.op ≠ .defer c) {v : Value} {w' : World} (hr : RunsTo P (execOp a.eval o) w v w') :
    step P (lone (b.atR a (.inRegion ops (i :: rest) :: k)) cs w) = .next (lone (b.atR (a.put o.dst v) (.inRegion ops rest :: k)) cs w') := by
  have hg := stepGR_op (P := P) (b := b) (k := k) (cs := cs) (w := w) (rest := rest) ho hw
  rw [Oper.semAt_eq _ _ _ hd] at hg
  have hfin : ∀ v, (b.atR a (.inRegion ops (i :: rest) :: k)).finish v = b.atR (a.put o.dst v) (.inRegion ops rest :: k) := by
    intro v; rw [Frame.finish_atR, ho]; rfl
  refine step_lone_go ?_
  rw [hg, ← hfin]
  rcases hr with hr | ⟨rfl, hr⟩
  · simp [stepG.apply, hr]
  · simp [stepG.apply, hr]

theorem stepR_enter {b : Frame} {a : Act} {ops : Array Oper} {i : Nat} {rest : List Nat} {k : List Item} {cs : List Frame} {o : Oper} (ho : ops[i]? = some o) (hw : Region.wanted o (yielded ops a.tmps) = true)
    (hd : ∀ c, o.op ≠ .defer c) {f : FuncId} {args : Array Value} {w' : World} (hr : (execOp a.eval o).run P w = .ok (.enter f args) w') :
    step P (lone (b.atR a (.inRegion ops (i :: rest) :: k)) cs w) = .next (lone (Frame.enter P f args .normal) (b.atR a (.inRegion ops (i :: rest) :: k) :: cs) w') := by
  have hg := stepGR_op (P := P) (b := b) (k := k) (cs := cs) (w := w) (rest := rest) ho hw
  rw [Oper.semAt_eq _ _ _ hd] at hg
  exact step_lone_go (by rw [hg]; simp [stepG.apply, hr, Frame.atR])

theorem stepR_round {b : Frame} {a : Act} {ops : Array Oper} {i : Nat} {rest : List Nat} {k : List Item} {cs : List Frame} {o : Oper} (ho : ops[i]? = some o) (hw : Region.wanted o (yielded ops a.tmps) = true)
    (hd : ∀ c, o.op ≠ .defer c) {l : Nat} {f : FuncId} {tmps : Array Value} {as body : Code} {w' : World} (hr : (execOp a.eval o).run P w = .ok (.round l f tmps as body) w') :
    step P (lone (b.atR a (.inRegion ops (i :: rest) :: k)) cs w) = .next (lone (Frame.round l f tmps as body .normal) (b.atR a (.inRegion ops (i :: rest) :: k) :: cs) w') := by
  have hg := stepGR_op (P := P) (b := b) (k := k) (cs := cs) (w := w) (rest := rest) ho hw
  rw [Oper.semAt_eq _ _ _ hd] at hg
  exact step_lone_go (by rw [hg]; simp [stepG.apply, hr, Frame.atR])

theorem fnOf_spec {f : FuncId} {x : Func × Code} (h : fnOf P f = some x) : P.funcs[f]? = some x.1 ∧ x.1.body = some x.2 ∧ (x.1.name == "runtime.NumGoroutine") = false ∧ OkC P f x.2 := by
  unfold fnOf at h
  split at h
  · rename_i fn hf
    split at h
    · rename_i c hc
      split at h
      · cases h
      · rename_i hh
        cases h
        simp only [Bool.or_eq_true, Bool.not_eq_true', not_or, Bool.not_eq_true, Bool.not_eq_false] at hh
        refine ⟨hf, hc, hh.1, hh.2, fun y hy => ?_⟩
        unfold loopsP
        rw [hf]
        simp only [hc]
        exact hy
    · cases h
  · cases h

theorem run_callFunc {f : FuncId} {x : Func × Code} (h : fnOf P f = some x) (args : Array Value) : (callFunc f args).run P w = .ok (.enter f args) w := by
  obtain ⟨h1, h2, h3, _⟩ := fnOf_spec h
  have h3' : ¬ (x.1.name = "runtime.NumGoroutine") := by simpa using h3
  simp [callFunc, h1, h2, h3']

/-- An operation, in a frame. -/
theorem op_ok {rec : Rec} (hG : Good P G rec) {E : Env} {o : Oper} {s : St} {v : Value} {V' : VW} (hp : opGo rec P E o s V = .val v V') (hB : HB P G B) (hW : WR P B β V w) {a : Act} (hρ : ∀ x ∈ o.op.operands, VR β (ev s.tm x) (a.eval x))
    {b : Frame} {ops : Array Oper} {i : Nat} {rest : List Nat} {k : List Item} {cs : List Frame} (ho : ops[i]? = some o) (hw : Region.wanted o (yielded ops a.tmps) = true) :
    ∃ β' v' w', Ext β β' ∧ WR P B β' V' w' ∧ VR β' v v' ∧ Steps P (lone (b.atR a (.inRegion ops (i :: rest) :: k)) cs w) (lone (b.atR (a.put o.dst v') (.inRegion ops rest :: k)) cs w') := by
  have hfin : ∀ v, (b.atR a (.inRegion ops (i :: rest) :: k)).finish v = b.atR (a.put o.dst v) (.inRegion ops rest :: k) := by
    intro v; rw [Frame.finish_atR, ho]; rfl
  have hres : (∀ c, o.op ≠ .defer c) → Res P B β w (execOp a.eval o) v V' → ∃ β' v' w', Ext β β' ∧ WR P B β' V' w' ∧ VR β' v v' ∧ Steps P (lone (b.atR a (.inRegion ops (i :: rest) :: k)) cs w) (lone (b.atR (a.put o.dst v') (.inRegion ops rest :: k)) cs w') :=
    fun hd ⟨β', v', w', h1, h2, h3, h4⟩ => ⟨β', v', w', h1, h2, h3, .one (stepR_value ho hw hd h4)⟩
  by_cases hcall : ∃ c, o.op = .call c
  · obtain ⟨c, hc⟩ := hcall
    have hd : ∀ c, o.op ≠ .defer c := fun c' hh => by rw [hc] at hh; cases hh
    have hp' : callGo c rec P E o (ev s.tm) V = .val v V' := by
      unfold opGo opGk at hp; rw [hc] at hp; exact hp
    unfold callGo at hp'
    have hops : o.op.operands = c.operands := by rw [hc]; rfl
    cases hcc : c.callee with
    | builtin bb =>
      rw [hcc] at hp'
      exact hres hd (bi_ok (rec := rec) (E := E) hW hc hcc (fun x hx => hρ x (by rw [hops]; simp [Call.operands, hcc, hx])) hp')
    | invoke r m => rw [hcc] at hp'; cases hp'
    | value f =>
      rw [hcc] at hp'
      have hf := hρ f (by rw [hops]; simp [Call.operands, hcc])
      have hargs : ∀ x ∈ c.args, VR β (ev s.tm x) (a.eval x) := fun x hx => hρ x (by rw [hops]; simp [Call.operands, hcc, hx])
      have hexec : execOp a.eval o = (do let d ← Deferred.ofValue (a.eval f) (c.args.map a.eval); invoke d.target d.args : Sem Next) := by
        unfold execOp; simp only [hc]; unfold resolve; simp only [hcc]
      have hA : c.args.map a.eval = ⟨c.args.toList.map a.eval⟩ := by apply Array.ext'; simp
      have hAR : VRs β (c.args.toList.map (ev s.tm)) (c.args.toList.map a.eval) := VRs.map fun x hx => hargs x (by simpa using hx)
      change valueGo f rec P E o c (ev s.tm) V = _ at hp'
      unfold valueGo at hp'
      split at hp'
      · rename_i g fa fb hfv
        rw [hfv] at hf
        have hfr : ∃ fa' fb', a.eval f = .func (.func g) ⟨fa'⟩ ⟨fb'⟩ ∧ VRs β fa fa' ∧ VRs β fb fb' := by
          obtain ⟨y, hy⟩ : ∃ y, a.eval f = y := ⟨_, rfl⟩
          rw [hy] at hf ⊢
          cases hf with
          | atom h =>
            cases fa with
            | nil => cases fb with
              | nil => exact ⟨[], [], rfl, .nil, .nil⟩
              | cons _ _ => simp [atom] at h
            | cons _ _ => simp [atom] at h
          | func _ h1 h2 => exact ⟨_, _, rfl, h1, h2⟩
        obtain ⟨fa', fb', hfe, h1, h2⟩ := hfr
        split at hp'
        · rename_i fx hfx
          obtain ⟨hfn, hbody, _, _⟩ := fnOf_spec hfx
          rw [appL_eq, appL_eq, mapL_eq] at hp'
          have hrun : (execOp a.eval o).run P w = .ok (.enter g ⟨fa' ++ (c.args.toList.map a.eval ++ fb')⟩) w := by
            rw [hexec, hfe, hA]
            have harr : (⟨fa'⟩ ++ ⟨c.args.toList.map a.eval⟩ ++ ⟨fb'⟩ : Array Value) = ⟨fa' ++ (c.args.toList.map a.eval ++ fb')⟩ := by apply Array.ext'; simp
            simp only [Deferred.ofValue, Sem.run_bind, Sem.run_pure, Result.andThen_ok, invoke, harr]
            exact run_callFunc hfx _
          obtain ⟨β', v', w', fr, e1, e2, e3, e4, _, e6⟩ := hG.call g _ V v V' hp' B β w _ hB hW (h1.append (hAR.append h2)) ⟨_, _, hfn, hbody⟩ (b.atR a (.inRegion ops (i :: rest) :: k) :: cs)
          refine ⟨β', v', w', e1, e2, e3, .head (stepR_enter ho hw hd hrun) (e4.trans (.one ?_))⟩
          rw [← hfin]; exact step_leave_returned e6
        · split at hp'
          · rename_i hfl
            simp only [Bool.and_eq_true] at hfl
            refine hres hd (flat_ok hW (o := o) (fun cs' bb hh => by rw [hc] at hh; cases hh) (e := ev s.tm) (fun x hx => hρ x hx) (fun x hx => ?_) hp')
            rw [hops] at hx
            simp only [Call.operands, hcc, Array.mem_append, List.mem_toArray, List.mem_cons, List.not_mem_nil, or_false] at hx
            rcases hx with rfl | hx
            · exact hfl.1
            · exact List.all_eq_true.1 hfl.2 x (by simpa using hx)
          · cases hp'
      · rename_i l fb hfv
        rw [hfv] at hf
        have hfr : ∃ l', a.eval f = .func (.yield l') ⟨[]⟩ ⟨[]⟩ ∧ RoR β l l' := by
          obtain ⟨y, hy⟩ : ∃ y, a.eval f = y := ⟨_, rfl⟩
          rw [hy] at hf ⊢
          cases hf with
          | atom h => simp [atom] at h
          | func h _ _ => cases h
          | yield h => exact ⟨_, rfl, .inl ⟨_, _, h⟩⟩
          | yieldD h => exact ⟨_, rfl, .inr h⟩
        obtain ⟨l', hfe, hl⟩ := hfr
        rw [mapL_eq] at hp'
        obtain ⟨lp, g1, g2, g3⟩ := hG.round l _ V v V' hp' B β w _ l' hB hW hAR hl
        obtain ⟨β', v', w', e1, e2, e3, e4⟩ := g3 (b.atR a (.inRegion ops (i :: rest) :: k)) cs
        have hrun : (execOp a.eval o).run P w = .ok (.round l' lp.fn ((lp.params.zip ⟨c.args.toList.map a.eval⟩).foldl (fun tmps (t, a) => tmps.setIfInBounds t a) lp.tmps) lp.assign lp.body) w := by
          rw [hexec, hfe, hA]
          have harr : (⟨[]⟩ ++ ⟨c.args.toList.map a.eval⟩ : Array Value) = ⟨c.args.toList.map a.eval⟩ := by apply Array.ext'; simp
          simp only [Deferred.ofValue, Sem.run_bind, Sem.run_pure, Result.andThen_ok, invoke, harr]
          exact run_yield g1 (by simpa using g2)
        refine ⟨β', v', w', e1, e2, e3, .head (stepR_round ho hw hd hrun) ?_⟩
        rw [← hfin]; exact e4
      · cases hp'
  · have hp' : plainGo P o (ev s.tm) V = .val v V' := by
      unfold opGo opGk at hp
      obtain ⟨dst, op, type, pos, after, guard⟩ := o
      cases op <;> first | exact hp | exact absurd ⟨_, rfl⟩ hcall
    refine hres (fun c hh => ?_) (plain_ok hW hρ hp')
    obtain ⟨dst, op, type, pos, after, guard⟩ := o
    simp only at hh
    subst hh
    cases hp'

/-- One operation of a region. -/
theorem one_ok {rec : Rec} (hG : Good P G rec) {E : Env} {o : Oper} {s s' : St} {x : X} {ops : Array Oper} (hp : oneGo rec P E ops.toList o s V = .fall x s') (hB : HB P G B) (hW : WR P B β V w) {a : Act}
    (hwant : wantGo ops.toList o s.tm = Region.wanted o (yielded ops a.tmps)) (hρ : ∀ x ∈ o.op.operands, VR β (ev s.tm x) (a.eval x))
    {b : Frame} {i : Nat} {rest : List Nat} {k : List Item} {cs : List Frame} (ho : ops[i]? = some o) :
    ∃ v V', putGo E o.dst v s V' = .fall x s' ∧ ∃ β' v' w', Ext β β' ∧ WR P B β' V' w' ∧ VR β' v v' ∧ Steps P (lone (b.atR a (.inRegion ops (i :: rest) :: k)) cs w) (lone (b.atR (a.put o.dst v') (.inRegion ops rest :: k)) cs w') := by
  unfold oneGo at hp
  cases hb : wantGo ops.toList o s.tm with
  | false =>
    rw [hb] at hp
    refine ⟨undef, V, hp, β, undef, w, .refl _, hW, .undef, .one ?_⟩
    have h := stepR_op_skip (P := P) (b := b) (a := a) (k := k) (cs := cs) (w := w) (ops := ops) (i := i) (rest := rest) (by rw [ho]; simp; rw [← hwant, hb])
    rw [ho] at h; exact h
  | true =>
    rw [hb] at hp
    change afterGo E o.dst s (opGo rec P E o s V) = _ at hp
    cases hop : opGo rec P E o s V with
    | val v V' =>
      rw [hop] at hp
      obtain ⟨β', v', w', h1, h2, h3, h4⟩ := op_ok hG hop hB hW hρ (b := b) (rest := rest) (k := k) (cs := cs) ho (by rw [← hwant, hb])
      exact ⟨v, V', hp, β', v', w', h1, h2, h3, h4⟩
    | fall y t => rw [hop] at hp; cases hp
    | bad m n => rw [hop] at hp; cases hp

theorem okOps_mem : ∀ {l : List Oper}, okOps P l = true → ∀ o ∈ l, okOp P o = true
  | [], _, _, h => by cases h
  | p :: l, h, o, ho => by
    simp only [okOps, Bool.and_eq_true] at h
    rcases List.mem_cons.1 ho with rfl | ho
    · exact h.1
    · exact okOps_mem h.2 o ho
theorem okOp_mem {o : Oper} (h : okOp P o = true) : ∀ x ∈ o.op.operands, okO P x = true := fun x hx => List.all_eq_true.1 h x (by simpa using hx)

theorem opsGo_cons {rec : Rec} {E : Env} {all : List Oper} (o : Oper) (l : List Oper) (s : St) : opsGo rec P E all (o :: l) s = thenOps (opsGo rec P E all l) (oneGo rec P E all o s s.V) := rfl
theorem thenOps_fall {K : St → R} {r : R} {x : X} {s' : St} (h : thenOps K r = .fall x s') : ∃ y s1, r = .fall y s1 ∧ K s1 = .fall x s' := by
  cases r with
  | fall y s1 => exact ⟨y, s1, rfl, h⟩
  | val v V => cases h
  | bad a b => cases h

/-- A region in its order. -/
theorem ops_ok {rec : Rec} (hG : Good P G rec) {E : Env} {ops : Array Oper} (hok : okOps P ops.toList = true) {b : Frame} {k : List Item} {cs : List Frame} (hB : HB P G B) :
    ∀ (l : List Oper) (j : Nat) (s s' : St) (x : X) (β : Nat → Ren) (a : Act) (w : World), l = ops.toList.drop j → opsGo rec P E ops.toList l s = .fall x s' → WR P B β s.V w → SR β E s a →
      x = .normal ∧ ∃ β' a' w', Ext β β' ∧ WR P B β' s'.V w' ∧ SR β' E s' a' ∧ Steps P (lone (b.atR a (.inRegion ops ((List.range ops.size).drop j) :: k)) cs w) (lone (b.atR a' k) cs w')
  | [], j, s, s', x, β, a, w, hl, hp, hW, hS => by
    cases hp
    have hj : ops.size ≤ j := by
      have := List.drop_eq_nil_iff.1 hl.symm; simpa using this
    refine ⟨rfl, β, a, w, .refl _, hW, hS, ?_⟩
    rw [List.drop_eq_nil_of_le (by simpa using hj)]
    exact .one stepR_region_end
  | o :: l, j, s, s', x, β, a, w, hl, hp, hW, hS => by
    rw [opsGo_cons] at hp
    obtain ⟨y, s1, h1, h2⟩ := thenOps_fall hp
    have hj : j < ops.size := by
      rcases Nat.lt_or_ge j ops.size with h | h
      · exact h
      · rw [List.drop_eq_nil_of_le (by simpa using h)] at hl; cases hl
    have hoj : ops[j]? = some o := by
      rw [← Array.getElem?_toList]
      have : (ops.toList.drop j)[0]? = some o := by rw [← hl]; rfl
      simpa using this
    have hl' : l = ops.toList.drop (j + 1) := by
      have : (ops.toList.drop j).tail = l := by rw [← hl]; rfl
      rw [← this]; simp
    have hmem : o ∈ ops.toList := by rw [← Array.getElem?_toList] at hoj; exact List.mem_of_getElem? hoj
    have hoko := okOps_mem hok o hmem
    have hρ : ∀ x ∈ o.op.operands, VR β (ev s.tm x) (a.eval x) := fun x hx => ev_ok hW hS.tm (okOp_mem hoko x hx)
    obtain ⟨v, V', hput, β1, v', w1, e1, e2, e3, e4⟩ := one_ok hG h1 hB hW (want_ok fun t _ _ _ _ => hS.tm.2 t) hρ (b := b) (rest := (List.range ops.size).drop (j + 1)) (k := k) (cs := cs) hoj
    obtain ⟨rfl, hV, _, _⟩ := put_ok hput
    obtain ⟨hx, β2, a2, w2, f1, f2, f3, f4⟩ := ops_ok hG hok hB l (j + 1) s1 s' x β1 (a.put o.dst v') w1 hl' h2 (by rw [hV]; exact e2) ((hS.mono e1).put hput e3)
    refine ⟨hx, β2, a2, w2, e1.trans f1, f2, f3, ?_⟩
    have hr : (List.range ops.size).drop j = j :: (List.range ops.size).drop (j + 1) := by
      rw [List.drop_eq_getElem_cons (by simpa using hj)]; simp
    rw [hr]
    exact e4.trans f4

theorem list_good {rec : Rec} (hG : Good P G rec) {ops : Array Oper} {E : Env} {s : St} (hok : okOps P ops.toList = true) {id : Nat} : CodeOk P G (listC ops rec P E s) [.code (.region id ops false)] E s := by
  intro x s' he B β a w b k cs hB hW hS hF
  obtain ⟨rfl, β', a', w', e1, e2, e3, e4⟩ := ops_ok hG hok (b := b) (k := k) (cs := cs) hB ops.toList 0 s s' x β a w rfl he hW hS
  exact ⟨β', a', w', e1, e2, e3, .head stepR_region e4⟩
end
end Go.Vx
/-! Calls, rounds of a loop over a function, and such loops. -/
namespace Go.Vx
variable [Syms]
variable [Keeps]
open Go.RowKit

section
variable {P : Program} {G : VW} {B : Base} {β : Nat → Ren} {V : VW} {w : World}

theorem step_unwind {fr : Frame} {cs : List Frame} {blk : Nat} {ds : List Deferred} (hm : fr.mode = .returning) (hd : fr.defers = { target := .collected blk, args := #[] } :: ds) (hb : w.heap[blk]? = some (.deferred (some []))) :
    step P (lone fr cs w) = .next (lone { fr with defers := ds } cs (w.putObj blk (.deferred none))) :=
  step_lone_go (by simp [stepG, unwind, hm, hd, Sem.runT_eq, run_takeDeferred (P := P) hb])

theorem DR.nil_inv {ds : List Deferred} (h : DR β [] ds) : ds = [] := by cases h; rfl

/-- A block that is there. -/
theorem RoR.obj (h : WR P B β V w) {l l' : Nat} (hr : RoR β l l') {o : VObj} (hg : V.heap.get l = some o) (hne : o ≠ .dfr true) : ∃ cp sh o', β l = .live l' cp sh ∧ w.heap[l']? = some o' ∧ ObjR P β cp sh o o' := by
  rcases hr with ⟨cp, sh, e⟩ | e
  · obtain ⟨p, p', h1, h2, h3⟩ := h.obj _ _ _ _ e
    rw [hg] at h1; cases h1
    exact ⟨cp, sh, p', e, h2, h3⟩
  · have := h.dead _ e; rw [hg] at this; cases this; exact absurd rfl hne

theorem load_asAddr {t : TypeId} {v u : Value} (h : (Instr.loadAt t v).run P w = .ok u w) : (do loadVar t (← asAddr v) : Sem Value).run P w = .ok u w := by
  cases v with
  | pointer a =>
    cases a with
    | none => simp [Instr.loadAt, Instr.sureAddr] at h
    | some a => simpa [Instr.loadAt, Instr.sureAddr, asAddr] using h
  | _ => simp [Instr.loadAt, Instr.sureAddr] at h

theorem res_ok (h : WR P B β V w) {nt : Nat} {s : St} {tmps : Array Value} (hT : TR β nt s.tm tmps) {g : ResultVar → Sem Value} (hg1 : ∀ t, g (.tmp t) = pure (tmps.getD t undef)) (hg2 : ∀ a t, g (.cell a t) = (do loadVar t (← asAddr (tmps.getD a undef)))) :
    ∀ (l : List ResultVar) {vs : List Value}, resGo P s V l = some vs → ∃ vs', (l.mapM g).run P w = .ok vs' w ∧ VRs β vs vs'
  | [], vs, hr => by cases hr; exact ⟨[], by simp, .nil⟩
  | .tmp t :: l, vs, hr => by
    unfold resGo at hr
    split at hr
    · rename_i vs0 h0
      cases hr
      obtain ⟨vs', h1, h2⟩ := res_ok h hT hg1 hg2 l h0
      refine ⟨tmps.getD t undef :: vs', ?_, .cons (hT.2 t) h2⟩
      rw [List.mapM_cons, Sem.run_bind, hg1]
      simp [h1]
    · cases hr
  | .cell a t :: l, vs, hr => by
    unfold resGo at hr
    split at hr
    · rename_i v vs0 hv h0
      cases hr
      obtain ⟨vs', h1, h2⟩ := res_ok h hT hg1 hg2 l h0
      obtain ⟨u, h3, h4⟩ := load_ok h (hT.2 a) hv
      refine ⟨u :: vs', ?_, .cons h4 h2⟩
      rw [List.mapM_cons, Sem.run_bind, hg2, load_asAddr h3]
      simp [h1]
    · cases hr

theorem results_ok (h : WR P B β V w) {nt : Nat} {s : St} {tmps : Array Value} (hT : TR β nt s.tm tmps) {fn : Func} {vs : List Value} (hr : resGo P s V fn.results.toList = some vs) :
    ∃ vs', VRs β vs vs' ∧ (results fn tmps).run P w = .ok (if h : vs'.length = 1 then vs'[0] else .tuple ⟨vs'⟩) w := by
  have key : ∃ g : ResultVar → Sem Value, (∀ t, g (.tmp t) = pure (tmps.getD t undef)) ∧ (∀ a t, g (.cell a t) = (do loadVar t (← asAddr (tmps.getD a undef)))) ∧
      results fn tmps = (do let vs ← fn.results.mapM g; pure (if h : vs.size = 1 then vs[0] else .tuple vs)) := ⟨_, fun _ => rfl, fun _ _ => rfl, rfl⟩
  obtain ⟨g, h1, h2, h3⟩ := key
  obtain ⟨vs', h4, h5⟩ := res_ok h hT h1 h2 _ hr
  refine ⟨vs', h5, ?_⟩
  rw [h3, Array.mapM_eq_mapM_toList]
  simp only [Sem.run_bind, Sem.run_map, h4, Result.andThen_ok, Sem.run_pure]
  congr 1

/-- A function is left. -/
theorem leave_ok {fn : Func} {f : FuncId} (hfn : P.funcs[f]? = some fn) {cs : List Frame} {nt : Nat} {s : St} {tmps : Array Value} (hT : TR β nt s.tm tmps) :
    ∀ (df : List Nat) (V : VW) (w : World) (ds : List Deferred) (fr : Frame) {v : Value} {V' : VW}, leaveGo P fn f s V df = .val v V' → WR P B β V w → DR β df ds →
      fr.mode = .returning → fr.tmps = tmps → fr.defers = ds → fr.kind = .normal → fr.fn = f →
      ∃ v' w' fr', WR P B β V' w' ∧ VR β v v' ∧ Steps P (lone fr cs w) (lone fr' cs w') ∧ fr'.fn = f ∧ fr'.leaving P w' (.returned v')
  | [], V, w, ds, fr, v, V', hp, hW, hD, hm, ht, hd, hk, hf => by
    have hds := hD.nil_inv
    subst hds
    have hlv : ∀ u, (results fn tmps).run P w = .ok u w → fr.leaving P w (.returned u) := fun u hu => ⟨hm, hd, hk, fn, by rw [hf]; exact hfn, by rw [ht]; exact hu⟩
    unfold leaveGo at hp
    split at hp
    · rename_i u hr
      cases hp
      obtain ⟨vs', h1, h2⟩ := results_ok hW hT hr
      cases h1 with
      | cons h3 h4 =>
        cases h4
        exact ⟨_, w, fr, hW, h3, .refl _ _, hf, hlv _ (by simpa using h2)⟩
    · rename_i vs hne hr
      cases hp
      obtain ⟨vs', h1, h2⟩ := results_ok hW hT hr
      have hl : ¬ vs'.length = 1 := fun hh => by
        rw [h1.length] at hh
        obtain ⟨u, hu⟩ := List.length_eq_one_iff.1 hh
        exact hne u hu
      rw [dif_neg hl] at h2
      exact ⟨_, w, fr, hW, .tuple h1, .refl _ _, hf, hlv _ h2⟩
    · cases hp
  | k :: df, V, w, ds, fr, v, V', hp, hW, hD, hm, ht, hd, hk, hf => by
    unfold leaveGo at hp
    split at hp
    · rename_i hg
      split at hp
      · rename_i hfl
        have hfl := Nat.le_of_ble_eq_true hfl
        cases hD with
        | @cons k b l l' hr ht' =>
          obtain ⟨cp, sh, o', e1, e2, e3⟩ := hr.obj hW hg (by simp)
          cases e3 with
          | dfr =>
            obtain ⟨v', w', fr', h1, h2, h3, h4, h5⟩ := leave_ok hfn hT df _ _ l' { fr with defers := l' } hp (hW.put e1 hfl (o' := .deferred none) .dfrT) ht' hm ht rfl hk hf
            exact ⟨v', w', fr', h1, h2, .head (step_unwind hm hd e2) h3, h4, h5⟩
      · cases hp
    · cases hp

theorem fillT_get : ∀ (l : List Value) (i : Nat) (t : T Value) (j : Nat), i + l.length ≤ top → (fillT 21 l i t).get j = if i ≤ j ∧ j < i + l.length then l[j - i]? else t.get j
  | [], i, t, j, _ => by rw [if_neg (by simp only [List.length_nil]; omega)]; rfl
  | v :: l, i, t, j, h => by
    simp only [List.length_cons] at h
    unfold fillT
    rw [fillT_get l (i + 1) _ j (by omega), T.get_put _ _ _ (by omega)]
    by_cases h1 : i + 1 ≤ j ∧ j < i + 1 + l.length
    · rw [if_pos h1, if_pos (by simp only [List.length_cons]; omega), show j - i = (j - (i + 1)) + 1 from by omega]
      simp
    · rw [if_neg h1]
      by_cases h2 : j = i
      · subst h2; rw [if_pos rfl, if_pos (by simp)]; simp
      · rw [if_neg h2, if_neg (by simp only [List.length_cons]; omega)]

theorem fillT_tr {args args' : List Value} (h : VRs β args args') {nt : Nat} (hn : args.length ≤ nt) (ht : args.length ≤ top) :
    TR β nt (fillT 21 args 0 .nil) ((⟨args'⟩ : Array Value) ++ Array.replicate (nt - (⟨args'⟩ : Array Value).size) undef) := by
  refine ⟨by simp [h.length]; omega, fun t => ?_⟩
  unfold tget orU
  rw [fillT_get args 0 .nil t (by omega)]
  simp only [Array.getD_eq_getD_getElem?, Array.getElem?_append, Nat.zero_le, true_and, Nat.zero_add, Nat.sub_zero]
  by_cases ht' : t < args.length
  · rw [if_pos ht']
    have : t < args'.length := by rw [h.length]; exact ht'
    obtain ⟨v', h1, h2⟩ := h.get? (List.getElem?_eq_getElem ht')
    rw [List.getElem?_eq_getElem ht']
    have hs : t < (⟨args'⟩ : Array Value).size := this
    rw [if_pos hs, arr_get, h1]
    exact h2
  · rw [if_neg ht']
    have hs : ¬ t < (⟨args'⟩ : Array Value).size := by show ¬ t < args'.length; rw [h.length]; exact ht'
    rw [if_neg hs, Array.getElem?_replicate]
    split
    · exact .undef
    · exact .undef

/-- A call. -/
theorem fresh_good {rec : Rec} (hG : Good P G rec) (f : FuncId) (args : List Value) (V : VW) : CallOk P G (freshT f args V P rec) f args V := by
  intro v V' hp B β w args' hB hW hA _ cs
  unfold freshT at hp
  split at hp
  · rename_i fc hfc
    obtain ⟨hfn, hbody, _, hok⟩ := fnOf_spec hfc
    obtain ⟨fn, c⟩ := fc
    simp only at hfn hbody hok
    unfold enterGo at hp
    split at hp
    · rename_i hle
      have hle := Nat.le_of_ble_eq_true hle
      rw [lenL_eq] at hle
      have hle1 : args.length ≤ fn.ntmps := Nat.le_trans hle (Nat.min_le_left _ _)
      have hle2 : args.length ≤ top := Nat.le_trans hle (Nat.min_le_right _ _)
      have hT := fillT_tr hA hle1 hle2
      let b : Frame := { fn := f, tmps := #[], todo := [], defers := [], mode := .run, kind := .normal }
      have henter : Frame.enter P f ⟨args'⟩ .normal = b.atR { tmps := (⟨args'⟩ : Array Value) ++ Array.replicate (fn.ntmps - (⟨args'⟩ : Array Value).size) undef, defers := [] } [.code c] := by
        simp [Frame.enter, Frame.atR, hfn, hbody, b]
      have hF : Frm β ⟨f, fn.ntmps, none⟩ b := ⟨rfl, rfl, fun _ => rfl, fun l hl => by cases hl⟩
      have key := fun x s1 hr => hG.code c ⟨f, fn.ntmps, none⟩ ⟨fillT 21 args 0 .nil, V, []⟩ hok x s1 hr B β ⟨(⟨args'⟩ : Array Value) ++ Array.replicate (fn.ntmps - (⟨args'⟩ : Array Value).size) undef, []⟩ w b [] cs hB hW ⟨hT, .nil⟩ hF
      have fin : ∀ (x : X) (s1 : St), rec (.code c ⟨f, fn.ntmps, none⟩ ⟨fillT 21 args 0 .nil, V, []⟩) = .fall x s1 → leaveGo P fn f s1 s1.V s1.df = .val v V' → (x = .normal ∨ x = .ret) →
          ∃ β' v' w' fr, Ext β β' ∧ WR P B β' V' w' ∧ VR β' v v' ∧ Steps P (lone (Frame.enter P f ⟨args'⟩ .normal) cs w) (lone fr cs w') ∧ fr.fn = f ∧ fr.leaving P w' (.returned v') := by
        intro x s1 hr hl hx
        obtain ⟨β1, a1, w1, e1, e2, e3, e4⟩ := key x s1 hr
        rw [henter]
        rcases hx with rfl | rfl
        · obtain ⟨v', w', fr', g1, g2, g3, g4, g5⟩ := leave_ok hfn e3.tm s1.df s1.V w1 a1.defers { b.atR a1 [] with mode := .returning } (cs := cs) hl e2 e3.df rfl rfl rfl rfl rfl
          exact ⟨β1, v', w', fr', e1, g1, g2, Steps.trans e4 (.head (stepR_end rfl) g3), g4, g5⟩
        · obtain ⟨k', e4⟩ := e4
          obtain ⟨v', w', fr', g1, g2, g3, g4, g5⟩ := leave_ok hfn e3.tm s1.df s1.V w1 a1.defers { b.atR a1 (.code .ret :: k') with mode := .returning } (cs := cs) hl e2 e3.df rfl rfl rfl rfl rfl
          exact ⟨β1, v', w', fr', e1, g1, g2, Steps.trans e4 (.head (stepR_ret rfl) g3), g4, g5⟩
      unfold startGo at hp
      split at hp
      · rename_i s1 hr; exact fin _ s1 hr hp (.inl rfl)
      · rename_i s1 hr; exact fin _ s1 hr hp (.inr rfl)
      · cases hp
      · cases hp
    · cases hp
  · cases hp

theorem setL_tr {nt : Nat} : ∀ (ps : List Tmp) (args args' : List Value) (tm : T Value) (tmps : Array Value), VRs β args args' → TR β nt tm tmps → ps.length = args.length → (ps.all fun t => Nat.blt t nt && Nat.blt t top) = true →
    TR β nt (roundGo.setL tm ps args) ((ps.zip args').foldl (fun tmps (t, a) => tmps.setIfInBounds t a) tmps)
  | [], [], _, tm, tmps, .nil, hT, _, _ => hT
  | [], _ :: _, _, _, _, _, _, h, _ => by simp at h
  | _ :: _, [], _, _, _, _, _, h, _ => by simp at h
  | t :: ps, v :: args, _, tm, tmps, .cons hv hvs, hT, h, hall => by
    simp only [List.all_cons, Bool.and_eq_true] at hall
    obtain ⟨⟨h1, h2⟩, h3⟩ := hall
    have := setL_tr ps args _ (tm.set 21 t v) (tmps.setIfInBounds t _) hvs (hT.put (blt_lt h1) (blt_lt h2) hv) (by simpa using h) h3
    simpa [roundGo.setL] using this

/-- A round. -/
theorem round_good {rec : Rec} (hG : Good P G rec) (l : Nat) (args : List Value) (V : VW) : RoundOk P G (roundGo rec l args V) l args V := by
  intro v V' hp B β w args' l' hB hW hA hl
  unfold roundGo at hp
  split at hp
  · rename_i pend0 fn nt tm ps as bd hg
    obtain ⟨cp, sh, o', e1, e2, e3⟩ := hl.obj hW hg nofun
    cases e3 with
    | @loop _ _ _ _ _ tmps _ _ _ d' hT hk =>
      obtain ⟨hka, hkb, _⟩ := hk
      split at hp
      · cases hp
      · rename_i hcond
        simp only [Bool.or_eq_true, Bool.not_eq_true', not_or, Bool.not_eq_false] at hcond
        obtain ⟨⟨hlen, hfl⟩, hall⟩ := hcond
        have hlen : ps.toList.length = args.length := by simpa using hlen
        have hfl := Nat.le_of_ble_eq_true hfl
        refine ⟨_, e2, by rw [hA.length, ← hlen]; simp, fun c cs => ?_⟩
        let bf : Frame := { fn := fn, tmps := #[], todo := [], defers := [], mode := .run, kind := .normal, roundOf := some l' }
        have hz : (ps.zip (⟨args'⟩ : Array Value)) = ⟨ps.toList.zip args'⟩ := by apply Array.ext'; simp
        have hfold : ((ps.zip (⟨args'⟩ : Array Value)).foldl (fun tmps (t, a) => tmps.setIfInBounds t a) tmps) = (ps.toList.zip args').foldl (fun tmps (t, a) => tmps.setIfInBounds t a) tmps := by
          rw [hz]; simp
        have hT1 := setL_tr ps.toList args args' tm tmps hA hT hlen hall
        have hround : Frame.round l' fn ((ps.zip (⟨args'⟩ : Array Value)).foldl (fun tmps (t, a) => tmps.setIfInBounds t a) tmps) as bd .normal =
            bf.atR ⟨(ps.toList.zip args').foldl (fun tmps (t, a) => tmps.setIfInBounds t a) tmps, []⟩ ([.code as] ++ [.beginRound, .code bd]) := by
          rw [hfold]; rfl
        have hF : ∀ β1, Ext β β1 → Frm β1 ⟨fn, nt, some l⟩ bf := fun β1 hx => ⟨rfl, rfl, fun hh => (by cases hh), fun l0 hl0 => (by cases hl0; exact ⟨l', rfl, hl.mono hx⟩)⟩
        split at hp
        · rename_i s1 hr1
          obtain ⟨β1, a1, w1, f1, f2, f3, f4⟩ := hG.code as ⟨fn, nt, some l⟩ ⟨roundGo.setL tm ps.toList args, V, []⟩ hka _ s1 hr1 B β ⟨(ps.toList.zip args').foldl (fun tmps (t, a) => tmps.setIfInBounds t a) tmps, []⟩ w bf [.beginRound, .code bd] (c :: cs) hB hW ⟨hT1, .nil⟩ (hF β (.refl _))
          split at hp
          · rename_i pend1 fn1 nt1 tm1 ps1 as1 bd1 hg1
            split at hp
            · cases hp
            · rename_i hfl1
              have hfl1 : s1.V.floor ≤ l := by simpa using hfl1
              obtain ⟨cp1, sh1, o1, g1, g2, g3⟩ := (hl.mono f1).obj f2 hg1 nofun
              cases g3 with
              | @loop _ _ _ _ _ tmps1 _ _ _ d1 hT1' hk1 =>
                have hbegin := run_beginRound (P := P) g2 rfl
                have hW2 := f2.put (o := .loop .busy pend1 fn1 nt1 tm1 ps1 as1 bd1) g1 hfl1 (.loop (d' := d1) hT1' hk1)
                have key := fun x s2 hr => hG.code bd ⟨fn, nt, some l⟩ { s1 with V := s1.V.put l (.loop .busy pend1 fn1 nt1 tm1 ps1 as1 bd1) } hkb x s2 hr B β1 a1 _ bf [] (c :: cs) hB hW2 ⟨f3.tm, f3.df⟩ (hF β1 f1)
                have hstart : Steps P (lone (Frame.round l' fn ((ps.zip (⟨args'⟩ : Array Value)).foldl (fun tmps (t, a) => tmps.setIfInBounds t a) tmps) as bd .normal) (c :: cs) w)
                    (lone (bf.atR a1 ([.code bd] ++ [])) (c :: cs) (w1.putObj l' (.loop { state := .busy, pending := pend1, fn := fn1, tmps := tmps1, params := ps1, assign := as1, body := bd1, defers := d1 }))) := by
                  rw [hround]
                  exact Steps.trans f4 (.one (stepR_beginRound rfl hbegin))
                unfold roundGo.endGo at hp
                split at hp
                · rename_i x s2 hr2
                  obtain ⟨β2, a2, w2, k1, k2, k3, k4⟩ := key x s2 hr2
                  split at hp
                  · rename_i st2 pend2 fn2 nt2 tm2 ps2 as2 bd2 hg2
                    split at hp
                    · cases hp
                    · rename_i hfl2
                      have hfl2 : s2.V.floor ≤ l := by simpa using hfl2
                      obtain ⟨cp2, sh2, o2, m1, m2, m3⟩ := ((hl.mono f1).mono k1).obj k2 hg2 nofun
                      cases m3 with
                      | @loop _ _ _ _ _ tmps2 _ _ _ d2 hT2 hk2 =>
                        obtain ⟨hk2a, hk2b, _⟩ := hk2
                        have hend : ∀ jump, (Instr.endRound l' jump).run P w2 = .ok (.bool jump.isNone) (w2.putObj l' (.loop { state := if jump.isNone then .ready else .done, pending := jump, fn := fn2, tmps := tmps2, params := ps2, assign := as2, body := bd2, defers := d2 })) := fun jump => run_endRound (P := P) jump m2
                        have out : ∀ jump : Option Code, (∀ c', jump = some c' → OkC P fn2 c') → WR P B β2 (s2.V.put l (.loop (if jump.isNone then .ready else .done) jump fn2 nt2 tm2 ps2 as2 bd2)) (w2.putObj l' (.loop { state := if jump.isNone then .ready else .done, pending := jump, fn := fn2, tmps := tmps2, params := ps2, assign := as2, body := bd2, defers := d2 })) :=
                          fun jump hj => k2.put m1 hfl2 (.loop hT2 ⟨hk2a, hk2b, hj⟩)
                        cases x with
                        | normal =>
                          cases hp
                          exact ⟨β2, .bool true, _, f1.trans k1, out none (fun _ h => by cases h), .atom rfl, hstart.trans (Steps.trans k4 (.one (stepR_round_end rfl rfl (hend none))))⟩
                        | ret =>
                          cases hp
                          obtain ⟨k', k4⟩ := k4
                          exact ⟨β2, .bool false, _, f1.trans k1, out (some .ret) (fun _ h => by cases h; exact OkC.ret), .atom rfl, hstart.trans (Steps.trans k4 (.one (stepR_round_ret rfl rfl (hend (some .ret)))))⟩
                        | exit i =>
                          cases hp
                          obtain ⟨k', k5, k4⟩ := k4
                          exact ⟨β2, .bool false, _, f1.trans k1, out (some (.exit i)) (fun _ h => by cases h; exact OkC.exit), .atom rfl, hstart.trans (Steps.trans k4 (.one (stepR_round_exit rfl rfl (by rw [k5]; rfl) (hend (some (.exit i))))))⟩
                        | goto i =>
                          cases hp
                          obtain ⟨k', k5, k4⟩ := k4
                          exact ⟨β2, .bool false, _, f1.trans k1, out (some (.goto i)) (fun _ h => by cases h; exact OkC.goto), .atom rfl, hstart.trans (Steps.trans k4 (.one (stepR_round_goto rfl rfl (by rw [k5]; rfl) (hend (some (.goto i))))))⟩
                  · cases hp
                · cases hp
                · cases hp
          · cases hp
        · cases hp
        · cases hp
  · cases hp

/-! ### A range over a function -/
theorem run_enterLoop_inner {l : Nat} {r : Loop} (h : w.heap[l]? = some (.loop r)) (fn : FuncId) (tmps : Array Value) (ps : Array Tmp) (assign body : Code) :
    (Instr.enterLoop fn tmps ps assign body (some l)).run P w =
      .ok (w.heap.size, []) (w.alloc (.loop { state := .ready, pending := none, fn, tmps, params := ps, assign, body, defers := r.defers })) := by
  unfold Instr.enterLoop
  simp only [Sem.run_bind, run_getLoop h, run_newObj_alloc, Result.andThen, Sem.run_pure]

theorem stepR_range {b : Frame} {a : Act} {k : List Item} {cs : List Frame} {f : Operand} {ps : Array Tmp} {as body : Code} {l g : Nat} {mark : List Deferred} {w1 : World} {first captured : Array Value}
    (hl : (Instr.enterLoop b.fn a.tmps ps as body b.roundOf).run P w = .ok (l, mark) w1) (hf : a.eval f = .func (.func g) first captured)
    (hr : ∀ args, (callFunc g args).run P w1 = .ok (.enter g args) w1) :
    step P (lone (b.atR a (.code (.rangeFunc f ps as body) :: k)) cs w) =
      .next (lone (Frame.enter P g ((first ++ #[.func (.yield l) #[] #[]]) ++ captured) .normal) (b.atR ⟨a.tmps, mark ++ a.defers⟩ (.inRangeFunc l :: k) :: cs) w1) := by
  have he : ({ fn := b.fn, tmps := a.tmps, todo := Item.inRangeFunc l :: k, defers := mark ++ a.defers, mode := .run, kind := b.kind, roundOf := b.roundOf } : Frame).eval = a.eval := Frame.eval_atR b ⟨a.tmps, mark ++ a.defers⟩ (.inRangeFunc l :: k)
  have hsem : (do let d ← resolve a.eval { callee := .value f, args := #[.const (.func (.yield l) #[] #[])], argTypes := #[] } 0; invoke d.target d.args : Sem Next).run P w1 = .ok (.enter g ((first ++ #[.func (.yield l) #[] #[]]) ++ captured)) w1 := by
    have hm : (#[.const (.func (.yield l) #[] #[])] : Array Operand).map a.eval = #[.func (.yield l) #[] #[]] := by simp [Act.eval]
    simp only [resolve, hm, hf, Deferred.ofValue, Sem.run_bind, Sem.run_pure, Result.andThen_ok, invoke]
    exact hr _
  refine step_lone_go ?_
  simp only [stepG, stepG.exec, Frame.atR, Sem.runT_eq, hl]
  simp only [stepG.apply, he, Sem.runT_eq, hsem]
  simp

theorem stepR_endRange {b : Frame} {a : Act} {k : List Item} {cs : List Frame} {l : Nat} {jump : Option Code} {w' : World} (h : (Instr.endLoop l).run P w = .ok jump w') :
    step P (lone (b.atR a (.endRangeFunc l :: k)) cs w) = .next (lone (b.atR a ((jump.map Item.code).toList ++ k)) cs w') :=
  step_lone_go (by simp [stepG, stepG.exec, Frame.atR, Sem.runT_eq, h])

theorem finish_range {b : Frame} {a : Act} {k : List Item} {l : Nat} {v : Value} : (b.atR a (.inRangeFunc l :: k)).finish v = b.atR a (.endRangeFunc l :: k) := by
  simp [Frame.finish, Frame.atR]

theorem rangeBack_ok {rec : Rec} (hG : Good P G rec) {E : Env} {s : St} {l l' : Nat} {df : List Nat} {r : R} {x : X} {s' : St} (hp : rangeBack rec E s l df r = .fall x s') :
    ∃ v V, r = .val v V ∧ ∀ (B : Base) (β : Nat → Ren) (w : World) (a : Act) (b : Frame) (k : List Item) (cs : List Frame), HB P G B → WR P B β V w → RoR β l l' → TR β E.nt s.tm a.tmps → DR β df a.defers → Frm β E b →
      ∃ β' a' w', Ext β β' ∧ WR P B β' s'.V w' ∧ SR β' E s' a' ∧ Way P (lone (b.atR a (.endRangeFunc l' :: k)) cs w) b k cs x a' w' := by
  unfold rangeBack at hp
  split at hp
  · rename_i v V
    refine ⟨v, V, rfl, fun B β w a b k cs hB hW hl hT hD hF => ?_⟩
    split at hp
    · rename_i st pend fn nt tm ps as bd hg
      split at hp
      · cases hp
      · rename_i hc
        simp only [Bool.or_eq_true, Bool.not_eq_true', not_or, Bool.not_eq_true, Bool.not_eq_false] at hc
        have hfl := Nat.le_of_ble_eq_true hc.1.2
        have hst : st ≠ .busy := fun hh => by subst hh; cases hc.1.1
        have hfn := Nat.eq_of_beq_eq_true hc.2
        obtain ⟨cp, sh, o', e1, e2, e3⟩ := hl.obj hW hg nofun
        cases e3 with
        | @loop _ _ _ _ _ tmps _ _ _ d' hT' hk =>
          have hend := run_endLoop (P := P) e2 hst
          have hW' := hW.put (o := .loop .exhausted pend fn nt tm ps as bd) e1 hfl (.loop (d' := d') hT' hk)
          split at hp
          · cases hp
            exact ⟨β, a, _, .refl _, hW', ⟨hT, hD⟩, .one (stepR_endRange hend)⟩
          · rename_i c
            obtain ⟨β', a', w', f1, f2, f3, f4⟩ := hG.code c E _ (hfn ▸ hk.2.2 c rfl) x s' hp B β a _ b k cs hB hW' ⟨hT, hD⟩ hF
            exact ⟨β', a', w', f1, f2, f3, .of_steps (.one (stepR_endRange hend)) f4⟩
    · cases hp
  · cases hp
  · cases hp

theorem range_good {rec : Rec} (hG : Good P G rec) {f : Operand} {ps : Array Tmp} {as bd : Code} {E : Env} {s : St} (hf : okO P f = true) (ha : OkC P E.fn as) (hb : OkC P E.fn bd) :
    CodeOk P G (rangeC f ps as bd rec P E s) [.code (.rangeFunc f ps as bd)] E s := by
  intro x s' he B β a w b k cs hB hW hS hF
  have hv := ev_ok hW hS.tm hf
  unfold rangeC at he
  split at he
  · rename_i g fa fc hev
    rw [hev] at hv
    have hfr : ∃ fa' fc', a.eval f = .func (.func g) ⟨fa'⟩ ⟨fc'⟩ ∧ VRs β fa fa' ∧ VRs β fc fc' := by
      obtain ⟨y, hy⟩ : ∃ y, a.eval f = y := ⟨_, rfl⟩
      rw [hy] at hv ⊢
      cases hv with
      | atom h =>
        cases fa with
        | nil => cases fc with
          | nil => exact ⟨[], [], rfl, .nil, .nil⟩
          | cons _ _ => simp [atom] at h
        | cons _ _ => simp [atom] at h
      | func _ h1 h2 => exact ⟨_, _, rfl, h1, h2⟩
    obtain ⟨fa', fc', hfe, h1, h2⟩ := hfr
    split at he
    · cases he
    · rename_i fx hfx
      obtain ⟨hfn, hbody, _, _⟩ := fnOf_spec hfx
      split at he
      · cases he
      · rename_i htop
        have htop : s.V.size + 1 < top := by
          have : Nat.blt (s.V.size + 1) top = true := by simpa using htop
          exact blt_lt this
        have harr : ∀ l, ((⟨fa'⟩ ++ #[.func (.yield l) #[] #[]]) ++ ⟨fc'⟩ : Array Value) = ⟨fa' ++ (.func (.yield l) ⟨[]⟩ ⟨[]⟩ :: fc')⟩ := fun l => by apply Array.ext'; simp
        split at he
        · rename_i hro
          -- outermost
          obtain ⟨v, V, hr, hgo⟩ := rangeBack_ok (l' := w.heap.size + 1) hG he
          obtain ⟨q1, q2⟩ := hW.alloc (by omega : s.V.size < top) 0 0 (o := .dfr false) (o' := .deferred (some [])) .dfr
          obtain ⟨q3, q4⟩ := q1.alloc (by show s.V.size + 1 < top; exact htop) 0 0 (o := .loop .ready none E.fn E.nt s.tm ps as bd)
            (o' := .loop { state := .ready, pending := none, fn := E.fn, tmps := a.tmps, params := ps, assign := as, body := bd, defers := w.heap.size }) (.loop (hS.tm.mono q2) ⟨ha, hb, fun _ hh => by cases hh⟩)
          have hx := q2.trans q4
          generalize hβ2 : upd (upd β s.V.size (.live w.heap.size 0 0)) (s.V.push (.dfr false)).size (.live (w.alloc (.deferred (some []))).heap.size 0 0) = β2 at q3 q4 hx
          have hsz : (w.alloc (.deferred (some []))).heap.size = w.heap.size + 1 := by simp
          have hl2 : β2 (s.V.size + 1) = .live (w.heap.size + 1) 0 0 := by rw [← hβ2, ← hsz]; exact upd_same _ _ _
          have hd2 : β2 s.V.size = .live w.heap.size 0 0 := by
            rw [← hβ2]; rw [upd_ne _ _ (by show s.V.size ≠ s.V.size + 1; omega)]; exact upd_same _ _ _
          have hyield : VR β2 (.func (.yield (s.V.size + 1)) ⟨[]⟩ ⟨[]⟩) (.func (.yield (w.heap.size + 1)) ⟨[]⟩ ⟨[]⟩) := .yield hl2
          rw [appL_eq] at hr
          obtain ⟨β3, v', w3, fr, e1, e2, e3, e4, _, e6⟩ := hG.call g _ _ v V hr B β2 _ _ hB q3 ((h1.mono hx).append (.cons hyield (h2.mono hx))) ⟨_, _, hfn, hbody⟩
            (b.atR ⟨a.tmps, [{ target := .collected w.heap.size, args := #[] }] ++ a.defers⟩ (.inRangeFunc (w.heap.size + 1) :: k) :: cs)
          have hent := run_enterLoop_outer (P := P) (w := w) b.fn a.tmps ps as bd
          rw [hF.fn] at hent
          have hstep := stepR_range (P := P) (b := b) (a := a) (k := k) (cs := cs) (f := f) (ps := ps) (as := as) (body := bd) (by rw [hF.fn, hF.none hro]; exact hent) hfe (fun args => run_callFunc hfx args)
          rw [harr] at hstep
          have hx3 := hx.trans e1
          have hDR : DR β3 (s.V.size :: s.df) ([{ target := .collected w.heap.size, args := #[] }] ++ a.defers) := .cons (RoR.mono e1 (.inl ⟨0, 0, hd2⟩)) (hS.df.mono hx3)
          obtain ⟨β4, a4, w4, g1, g2, g3, g4⟩ := hgo B β3 w3 ⟨a.tmps, [{ target := .collected w.heap.size, args := #[] }] ++ a.defers⟩ b k cs hB e2 (RoR.mono e1 (.inl ⟨0, 0, hl2⟩)) (hS.tm.mono hx3) hDR (hF.mono hx3)
          refine ⟨β4, a4, w4, hx3.trans g1, g2, g3, .of_steps (.head hstep (e4.trans (.one ?_))) g4⟩
          rw [← finish_range (v := v')]; exact step_leave_returned e6
        · rename_i l0 hro
          split at he
          · rename_i st0 pend0 fn0 nt0 tm0 ps0 as0 bd0 hg0
            obtain ⟨l0', hrf, hl0⟩ := hF.some l0 hro
            obtain ⟨cp0, sh0, o0, z1, z2, z3⟩ := hl0.obj hW hg0 nofun
            cases z3 with
            | @loop _ _ _ _ _ tmps0 _ _ _ d0 hT0 hk0 =>
              obtain ⟨v, V, hr, hgo⟩ := rangeBack_ok (l' := w.heap.size) hG he
              obtain ⟨q3, hx⟩ := hW.alloc (by omega : s.V.size < top) 0 0 (o := .loop .ready none E.fn E.nt s.tm ps as bd)
                (o' := .loop { state := .ready, pending := none, fn := E.fn, tmps := a.tmps, params := ps, assign := as, body := bd, defers := d0 }) (.loop hS.tm ⟨ha, hb, fun _ hh => by cases hh⟩)
              generalize hβ2 : upd β s.V.size (.live w.heap.size 0 0) = β2 at q3 hx
              have hl2 : β2 s.V.size = .live w.heap.size 0 0 := by rw [← hβ2]; exact upd_same _ _ _
              have hyield : VR β2 (.func (.yield s.V.size) ⟨[]⟩ ⟨[]⟩) (.func (.yield w.heap.size) ⟨[]⟩ ⟨[]⟩) := .yield hl2
              rw [appL_eq] at hr
              obtain ⟨β3, v', w3, fr, e1, e2, e3, e4, _, e6⟩ := hG.call g _ _ v V hr B β2 _ _ hB q3 ((h1.mono hx).append (.cons hyield (h2.mono hx))) ⟨_, _, hfn, hbody⟩
                (b.atR ⟨a.tmps, [] ++ a.defers⟩ (.inRangeFunc w.heap.size :: k) :: cs)
              have hent := run_enterLoop_inner (P := P) z2 b.fn a.tmps ps as bd
              rw [hF.fn] at hent
              have hstep := stepR_range (P := P) (b := b) (a := a) (k := k) (cs := cs) (f := f) (ps := ps) (as := as) (body := bd) (by rw [hF.fn, hrf]; exact hent) hfe (fun args => run_callFunc hfx args)
              rw [harr] at hstep
              have hx3 := hx.trans e1
              obtain ⟨β4, a4, w4, g1, g2, g3, g4⟩ := hgo B β3 w3 ⟨a.tmps, [] ++ a.defers⟩ b k cs hB e2 (RoR.mono e1 (.inl ⟨0, 0, hl2⟩)) (hS.tm.mono hx3) (hS.df.mono hx3) (hF.mono hx3)
              refine ⟨β4, a4, w4, hx3.trans g1, g2, g3, .of_steps (.head hstep (e4.trans (.one ?_))) g4⟩
              rw [← finish_range (v := v')]; exact step_leave_returned e6
          · cases he
  · cases he
end
end Go.Vx
/-! Regions whose operations come in any order: what stands in order. -/
namespace Go.Vx
variable [Syms]
variable [Keeps]
open Go.RowKit

/-! ### What must have come before -/
theorem foldl_app {α β : Type} (g : List β → α → β) : ∀ (l : List α) (init : List β), ∃ t, l.foldl (fun acc o => acc ++ [g acc o]) init = init ++ t ∧ t.length = l.length
  | [], init => ⟨[], by simp, rfl⟩
  | o :: l, init => by
    obtain ⟨t, h1, h2⟩ := foldl_app g l (init ++ [g init o])
    exact ⟨g init o :: t, by simp [h1], by simp [h2]⟩

theorem ancs_snoc (l : List Oper) (o : Oper) : ancsL (l ++ [o]) = ancsL l ++ [ancOf (ancsL l) o] := by simp [ancsL]
theorem ancs_length (l : List Oper) : (ancsL l).length = l.length := by
  obtain ⟨t, h1, h2⟩ := foldl_app ancOf l []
  unfold ancsL; rw [h1]; simpa using h2
theorem ancs_prefix (l k : List Oper) : ∃ t, ancsL (l ++ k) = ancsL l ++ t := by
  unfold ancsL
  rw [List.foldl_append]
  obtain ⟨t, h1, _⟩ := foldl_app ancOf k (l.foldl (fun acc o => acc ++ [ancOf acc o]) [])
  exact ⟨t, h1⟩
theorem ancs_get (l : List Oper) (i : Nat) (h : i < l.length) : (ancsL l).getD i 0 = ancOf (ancsL (l.take i)) l[i] := by
  have hl : l = (l.take i ++ [l[i]]) ++ l.drop (i + 1) := by simp
  have h1 := ancs_prefix (l.take i ++ [l[i]]) (l.drop (i + 1))
  obtain ⟨t, ht⟩ := h1
  rw [← hl] at ht
  rw [ht, ancs_snoc]
  have hlen : (ancsL (l.take i)).length = i := by rw [ancs_length]; simp; omega
  simp [List.getD_eq_getElem?_getD, List.getElem?_append, hlen]
theorem ancs_take (l : List Oper) (i j : Nat) (h : j < i) : (ancsL (l.take i)).getD j 0 = (ancsL l).getD j 0 := by
  obtain ⟨t, ht⟩ := ancs_prefix (l.take i) (l.drop i)
  rw [List.take_append_drop] at ht
  rw [ht]
  by_cases hj : j < (ancsL (l.take i)).length
  · simp [List.getD_eq_getElem?_getD, List.getElem?_append, hj]
  · have hlen := ancs_length (l.take i)
    have hle : l.length ≤ j := by
      rw [hlen] at hj; simp at hj; omega
    have : l.drop i = [] := List.drop_eq_nil_of_le (by omega)
    rw [List.take_of_length_le (by omega)] at ht ⊢
    have ht0 : t = [] := by
      have := congrArg List.length ht; simp at this; exact this
    subst ht0; simp

theorem anc_fold (acc : List Nat) (j : Nat) : ∀ (es : List Edge) (s : Nat), (es.foldl (fun s e => if Region.binds .any e then s ||| 2 ^ e.on ||| acc.getD e.on 0 else s) s).testBit j = true →
    s.testBit j = true ∨ ∃ e ∈ es, Region.binds .any e = true ∧ (e.on = j ∨ (acc.getD e.on 0).testBit j = true)
  | [], s, h => .inl h
  | e :: es, s, h => by
    simp only [List.foldl_cons] at h
    rcases anc_fold acc j es _ h with h | ⟨e', h1, h2, h3⟩
    · split at h
      · rename_i hb
        simp only [Nat.testBit_or, Bool.or_eq_true] at h
        rcases h with (h | h) | h
        · exact .inl h
        · refine .inr ⟨e, by simp, hb, .inl ?_⟩
          rw [Nat.testBit_two_pow] at h
          simpa using h
        · exact .inr ⟨e, by simp, hb, .inr h⟩
      · exact .inl h
    · exact .inr ⟨e', by simp [h1], h2, h3⟩

/-- What has all that it stands on. -/
def Closed (l : List Oper) (D : Nat → Prop) : Prop := ∀ i (h : i < l.length), D i → ∀ e ∈ l[i].after, Region.binds .any e = true → D e.on
def ReadyD (l : List Oper) (D : Nat → Prop) (i : Nat) : Prop := ∃ h : i < l.length, ¬ D i ∧ ∀ e ∈ l[i].after, Region.binds .any e = true → D e.on

theorem anc_in {l : List Oper} (hord : ∀ i (h : i < l.length), ∀ e ∈ l[i].after, Region.binds .any e = true → e.on < i) {D : Nat → Prop} (hc : Closed l D) :
    ∀ (n i : Nat), i < n → ∀ (h : i < l.length) (j : Nat), bit (ancsL l) i j = true → (∀ e ∈ l[i].after, Region.binds .any e = true → D e.on) → D j := by
  intro n
  induction n with
  | zero => intro i hi; omega
  | succ n ih =>
    intro i hi h j hb hall
    unfold bit at hb
    rw [ancs_get l i h] at hb
    unfold ancOf at hb
    rcases anc_fold _ _ _ _ hb with h0 | ⟨e, h1, h2, h3⟩
    · simp at h0
    · have he : e ∈ l[i].after := by simpa using h1
      have hd := hall e he h2
      have hlt := hord i h e he h2
      rcases h3 with h3 | h3
      · rw [← h3]; exact hd
      · rw [ancs_take l i e.on hlt] at h3
        have hel : e.on < l.length := by omega
        exact ih e.on (by omega) hel j h3 (hc e.on hel hd)

/-- What the look found. -/
structure Drawn (P : Program) (l : List Oper) : Prop where
  ord : ∀ i (h : i < l.length), ∀ e ∈ l[i].after, Region.binds .any e = true → e.on < i
  tmp : ∀ j (hj : j < l.length) d, l[j].dst = some d → ∀ i (hi : i < l.length), i ≠ j → (d ∈ looksL l l[i] ∨ l[i].dst = some d) → ordB (ancsL l) i j = true
  five : ∀ i (hi : i < l.length), (clsL l)[i]? = some 5 → ∀ j (hj : j < l.length), i ≠ j → 2 ≤ clsOf l[j].op → ordB (ancsL l) i j = true ∨ (isLook l[j].op = true ∧ j < i)
  nolook : ∀ i (hi : i < l.length), (clsL l)[i]? = some 5 → isLook l[i].op = false
  four : ∀ i j, lenAt P l i = false → (clsL l)[i]? = some 4 → (clsL l)[j]? = some 3 → ordB (ancsL l) i j = true

theorem zipIdx_all {α : Type} {l : List α} {p : α × Nat → Bool} (h : l.zipIdx.all p = true) (i : Nat) (hi : i < l.length) : p (l[i], i) = true := by
  refine List.all_eq_true.1 h _ ?_
  rw [List.mem_iff_getElem]
  exact ⟨i, by simpa using hi, by simp⟩

theorem cls_get (l : List Oper) (i : Nat) (h : i < l.length) : (clsL l)[i]? = some (if clsOf l[i].op == 4 && !lookAt l i && (l.map fun o => clsOf o.op).zipIdx.all (fun (c', j) => Nat.blt c' 2 || i == j || ordB (ancsL l) i j || (lookAt l j && Nat.blt j i)) then 5 else clsOf l[i].op) := by
  unfold clsL
  rw [List.getElem?_map]
  have hz : ((l.map fun o => clsOf o.op).zipIdx)[i]? = some (clsOf l[i].op, i) := by rw [List.getElem?_zipIdx]; simp [h]
  rw [hz]
  rfl
theorem cls_length (l : List Oper) : (clsL l).length = l.length := by unfold clsL; simp

theorem drawn_of {P : Program} {l : List Oper} (h : drawOk P l = true) : Drawn P l := by
  unfold drawOk at h
  simp only [Bool.and_eq_true] at h
  obtain ⟨⟨h1, h2⟩, h3⟩ := h
  have hno : ∀ i (hi : i < l.length), (clsL l)[i]? = some 5 → clsOf l[i].op = 4 ∧ lookAt l i = false ∧ (l.map fun o => clsOf o.op).zipIdx.all (fun (c', j) => Nat.blt c' 2 || i == j || ordB (ancsL l) i j || (lookAt l j && Nat.blt j i)) = true := fun i hi hc => by
    rw [cls_get l i hi] at hc
    split at hc
    · rename_i hcond
      simp only [Bool.and_eq_true, beq_iff_eq, Bool.not_eq_true'] at hcond
      exact ⟨hcond.1.1, hcond.1.2, hcond.2⟩
    · have hc := Option.some.inj hc
      exfalso
      cases hq : l[i].op <;> simp [clsOf, hq] at hc
      all_goals (first | (split at hc <;> omega) | omega | skip)
  have hla : ∀ i (hi : i < l.length), lookAt l i = isLook l[i].op := fun i hi => by unfold lookAt; rw [List.getElem?_eq_getElem hi]
  refine ⟨fun i hi e he hb => ?_, fun j hj d hd i hi hne hlook => ?_, fun i hi hc j hj hne h2' => ?_, fun i hi hc => by rw [← hla i hi]; exact (hno i hi hc).2.1, fun i j hla4 hi hj => ?_⟩
  · have := zipIdx_all h1 i hi
    simp only at this
    have := List.all_eq_true.1 this e (by simpa using he)
    rw [hb] at this
    exact blt_lt (by simpa using this)
  · have := zipIdx_all h2 j hj
    simp only [hd] at this
    have := zipIdx_all this i hi
    simp only [Bool.or_eq_true, Bool.not_eq_true', beq_iff_eq] at this
    rcases this with (h | h) | h
    · exact absurd h hne
    · rcases hlook with hl | hl
      · simp [hl] at h
      · simp [hl] at h
    · exact h
  · have := zipIdx_all (hno i hi hc).2.2 j (by simpa using hj)
    simp only [List.getElem_map, Bool.or_eq_true, Bool.and_eq_true, beq_iff_eq] at this
    rcases this with ((h | h) | h) | ⟨h, h'⟩
    · exact absurd (blt_lt h) (by omega)
    · exact absurd h hne
    · exact .inl h
    · exact .inr ⟨by rw [← hla j hj]; exact h, blt_lt h'⟩
  · obtain ⟨hil, hi'⟩ := List.getElem?_eq_some_iff.1 hi
    obtain ⟨hjl, hj'⟩ := List.getElem?_eq_some_iff.1 hj
    have := zipIdx_all h3 i hil
    simp only [hi', show (!((4 : Nat) == 4)) = false from rfl, Bool.false_or, hla4] at this
    have := zipIdx_all this j hjl
    simpa [hj'] using this
end Go.Vx
/-! Regions whose operations come in any order: the run in their own order. -/
namespace Go.Vx
variable [Syms]
variable [Keeps]
open Go.RowKit

def cutR (N : Nat) (β : Nat → Ren) : Nat → Ren := fun x => if x < N then β x else .fresh
theorem cutR_lt {N : Nat} {β : Nat → Ren} {x : Nat} (h : x < N) : cutR N β x = β x := if_pos h
theorem cutR_ge {N : Nat} {β : Nat → Ren} {x : Nat} (h : N ≤ x) : cutR N β x = .fresh := if_neg (by omega)

section
variable {N : Nat} {β β0 : Nat → Ren}

theorem lt_of_live (hf : ∀ y, N ≤ y → β0 y = .fresh) {i : Nat} (h : β0 i ≠ .fresh) : i < N := by
  rcases Nat.lt_or_ge i N with h' | h'
  · exact h'
  · exact absurd (hf i h') h

theorem idx_ptr (hf : ∀ y, N ≤ y → β0 y = .fresh) {i o : Nat} {v : Value} (h : VR β0 (.pointer (some ⟨i, o, none⟩)) v) : i < N := by
  cases h with
  | atom h => simp [atom] at h
  | ptr e => exact lt_of_live hf (by rw [e]; nofun)
  | ptrD e => exact lt_of_live hf (by rw [e]; nofun)
theorem idx_sl (hf : ∀ y, N ≤ y → β0 y = .fresh) {i o n c : Nat} {v : Value} (h : VR β0 (.slice (some ⟨i, o, none⟩) n c) v) : i < N := by
  cases h with
  | atom h => simp [atom] at h
  | sl e _ _ => exact lt_of_live hf (by rw [e]; nofun)
  | slD e _ _ => exact lt_of_live hf (by rw [e]; nofun)
theorem idx_map (hf : ∀ y, N ≤ y → β0 y = .fresh) {i : Nat} {v : Value} (h : VR β0 (.map (some i)) v) : i < N := by
  cases h with
  | atom h => simp [atom] at h
  | map e => exact lt_of_live hf (by rw [e]; nofun)
  | mapD e => exact lt_of_live hf (by rw [e]; nofun)
theorem idx_yield (hf : ∀ y, N ≤ y → β0 y = .fresh) {i : Nat} {v : Value} (h : VR β0 (.func (.yield i) ⟨[]⟩ ⟨[]⟩) v) : i < N := by
  cases h with
  | atom h => simp [atom] at h
  | func h _ _ => cases h
  | yield e => exact lt_of_live hf (by rw [e]; nofun)
  | yieldD e => exact lt_of_live hf (by rw [e]; nofun)

mutual
theorem VR.cut (hf : ∀ y, N ≤ y → β0 y = .fresh) : ∀ {v v' v0 : Value}, VR β v v' → VR β0 v v0 → VR (cutR N β) v v'
  | _, _, _, .atom h, _ => .atom h
  | _, _, _, .ptr h, h0 => .ptr (by rw [cutR_lt (idx_ptr hf h0)]; exact h)
  | _, _, _, .ptrD h, h0 => .ptrD (by rw [cutR_lt (idx_ptr hf h0)]; exact h)
  | _, _, _, .sl h hn hc, h0 => .sl (by rw [cutR_lt (idx_sl hf h0)]; exact h) hn hc
  | _, _, _, .slD h hn hc, h0 => .slD (by rw [cutR_lt (idx_sl hf h0)]; exact h) hn hc
  | _, _, _, .map h, h0 => .map (by rw [cutR_lt (idx_map hf h0)]; exact h)
  | _, _, _, .mapD h, h0 => .mapD (by rw [cutR_lt (idx_map hf h0)]; exact h)
  | _, _, _, .yield h, h0 => .yield (by rw [cutR_lt (idx_yield hf h0)]; exact h)
  | _, _, _, .yieldD h, h0 => .yieldD (by rw [cutR_lt (idx_yield hf h0)]; exact h)
  | _, _, _, .func hn h1 h2, h0 => by
    cases h0 with
    | atom h =>
      rename_i fn f f' c c'
      cases f with
      | nil => cases c with
        | nil => cases h1; cases h2; exact .func hn .nil .nil
        | cons => cases fn <;> simp [atom] at h
      | cons => cases fn <;> simp [atom] at h
    | func _ g1 g2 => exact .func hn (VRs.cut hf h1 g1) (VRs.cut hf h2 g2)
    | yield _ => cases hn
    | yieldD _ => cases hn
  | _, _, _, .iface h, h0 => by
    cases h0 with
    | atom h => simp [atom] at h
    | iface g => exact .iface (VR.cut hf h g)
  | _, _, _, .agg h, h0 => by
    cases h0 with
    | atom h => simp [atom] at h
    | agg g => exact .agg (VRs.cut hf h g)
  | _, _, _, .tuple h, h0 => by
    cases h0 with
    | atom h => simp [atom] at h
    | tuple g => exact .tuple (VRs.cut hf h g)
  | _, _, _, .sym, _ => .sym
theorem VRs.cut (hf : ∀ y, N ≤ y → β0 y = .fresh) : ∀ {l l' l0 : List Value}, VRs β l l' → VRs β0 l l0 → VRs (cutR N β) l l'
  | _, _, _, .nil, _ => .nil
  | _, _, _, .cons h t, .cons h0 t0 => .cons (VR.cut hf h h0) (VRs.cut hf t t0)
end

theorem EsR.cut (hf : ∀ y, N ≤ y → β0 y = .fresh) : ∀ {l l' l0 : List MapEntry}, EsR β l l' → EsR β0 l l0 → EsR (cutR N β) l l'
  | _, _, _, .nil, _ => .nil
  | _, _, _, .cons hk hv t, .cons _ hv0 t0 => .cons hk (hv.cut hf hv0) (EsR.cut hf t t0)

theorem ObjR.cut {P : Program} {cp sh : Nat} {o : VObj} {o' : Obj} (h : ObjR P β cp sh o o') (hb : Bd P N o) : ObjR P (cutR N β) cp sh o o' := by
  obtain ⟨β0, cp0, sh0, o0, hf, h0⟩ := hb
  cases h with
  | cells hp hr hcap hfz => cases h0 with | cells _ hr0 _ _ => exact .cells hp (hr.cut hf hr0) hcap hfz
  | grow hn h =>
    cases h0 with
    | grow _ h0 =>
      refine .grow hn ?_
      cases h with
      | cells hp hr hcap hfz => cases h0 with | cells _ hr0 _ _ => exact .cells hp (hr.cut hf hr0) hcap hfz
  | map h => cases h0 with | map h0 => exact .map (h.cut hf h0)
  | iter h => exact .iter h
  | loop ht hk => cases h0 with | loop ht0 _ => exact .loop ⟨ht.1, fun t => (ht.2 t).cut hf (ht0.2 t)⟩ hk
  | dfr => exact .dfr
  | dfrT => exact .dfrT
end

/-! ### A higher floor -/
section
variable {P : Program} {G : VW} {B : Base} {β : Nat → Ren} {V : VW} {w : World}

def upV (V : VW) : VW := ⟨V.heap, V.size, V.size⟩
def upB (β : Nat → Ren) (V : VW) (w : World) : Base := ⟨w, upV V, β, w, fun _ => False⟩

theorem WR.up (h : WR P B β V w) : WR P (upB β V w) β (upV V) w :=
  ⟨h.glob, Nat.le_trans h.gfl h.gsz, Nat.le_refl _, h.tops, h.out, h.obj, h.dead, h.inj, fun i b cp sh e hi => absurd (h.lt e) (by have : V.size ≤ i := hi; omega), fun _ _ => rfl, rfl, fun _ _ => rfl, Nat.le_refl _, .refl _ _,
    fun _ hp => hp.elim, fun _ _ hf => ⟨hf, rfl⟩, h.bd⟩

theorem HB.up (hB : HB P G B) (h : WR P B β V w) : HB P G (upB β V w) := ⟨fun g hg => by
  rw [← hB.1 g hg]
  exact h.keep g (Nat.lt_of_lt_of_le hg h.gfl), Keeps.keep _ _ hB.2 h.base⟩

theorem WR.down (h : WR P B β V w) {β' : Nat → Ren} {V1 : VW} {w' : World} (h1 : WR P (upB β V w) β' V1 w') : WR P B β' ⟨V1.heap, V1.size, V.floor⟩ w' := by
  have hfl : V1.floor = V.size := h1.flo
  have hgr : V.size ≤ V1.size := h1.grow
  have hlow : ∀ i, i < V.size → β' i = β i := fun i hi => h1.low i (by rw [hfl]; exact hi)
  have hkeep : ∀ i, i < V.size → V1.heap.get i = V.heap.get i := fun i hi => h1.keep i (by rw [hfl]; exact hi)
  have hgsz := h.gsz
  refine ⟨h1.glob, h.gfl, Nat.le_trans h.gsz hgr, h1.tops, h1.out, h1.obj, h1.dead, h1.inj, ?_, ?_, h.flo, ?_, Nat.le_trans h.grow hgr, ?_, ?_, ?_, h1.bd⟩
  · intro i b cp sh e hi
    rcases Nat.lt_or_ge i V.size with hlt | hge
    · rw [hlow i hlt] at e; exact h.own i b cp sh e hi
    · have := (h1.own i b cp sh e (by rw [hfl]; exact hge)).1
      have hb : w.heap.size ≤ b := this
      exact ⟨Nat.le_trans h.base.size hb, fun hp => by have := (h.kept b hp).1; omega⟩
  · intro i hi
    have hi' : i < V.floor := hi
    show V1.heap.get i = _
    rw [hkeep i (by omega)]; exact h.keep i hi
  · intro i hi
    have hi' : i < V.floor := hi
    rw [hlow i (by omega)]; exact h.low i hi
  · exact h.base.trans (h1.base.mono h.base.size)
  · intro b hp
    obtain ⟨k1, k2⟩ := h.kept b hp
    exact ⟨Nat.lt_of_lt_of_le k1 h1.base.size, by rw [h1.base.block b k1]; exact k2⟩
  · intro i hi hf
    obtain ⟨k1, k2⟩ := h.frz i hi hf
    have := h.grow
    exact ⟨by rw [hlow i (by omega)]; exact k1, by show V1.heap.get i = _; rw [hkeep i (by omega)]; exact k2⟩

/-! ### The run in order -/
theorem one_put {rec : Rec} {E : Env} {all : List Oper} {o : Oper} {s s1 : St} {x : X} (hp : oneGo rec P E all o s V = .fall x s1) :
    ∃ v V', putGo E o.dst v s V' = .fall x s1 ∧ ((wantGo all o s.tm = true ∧ opGo rec P E o s V = .val v V') ∨ (wantGo all o s.tm = false ∧ v = undef ∧ V' = V)) := by
  unfold oneGo at hp
  cases hb : wantGo all o s.tm with
  | false => rw [hb] at hp; exact ⟨undef, V, hp, .inr ⟨rfl, rfl, rfl⟩⟩
  | true =>
    rw [hb] at hp
    change afterGo E o.dst s (opGo rec P E o s V) = _ at hp
    cases hop : opGo rec P E o s V with
    | val v V' => rw [hop] at hp; exact ⟨v, V', hp, .inl ⟨rfl, rfl⟩⟩
    | fall y t => rw [hop] at hp; cases hp
    | bad m n => rw [hop] at hp; cases hp

/-- A step of such a run: what is put, and the world behind. -/
theorem draw_put {rec : Rec} {E : Env} {all : List Oper} {o : Oper} {k : Nat} {s s1 : St} {x : X} (hp : oneDraw rec P E all o k s = .fall x s1) :
    x = .normal ∧ ∃ v V', s1.V = ⟨V'.heap, V'.size, if k = 3 ∨ k = 5 then V'.floor else s.V.floor⟩ ∧ s1.df = s.df ∧ ((o.dst = none ∧ s1.tm = s.tm) ∨ ∃ t, o.dst = some t ∧ t < E.nt ∧ t < top ∧ s1.tm = s.tm.set 21 t v) ∧
      ((wantGo all o s.tm = true ∧ opGo rec P E o s (if k = 3 ∨ k = 5 then s.V else upV s.V) = .val v V') ∨ (wantGo all o s.tm = false ∧ v = undef ∧ V' = (if k = 3 ∨ k = 5 then s.V else upV s.V))) := by
  unfold oneDraw at hp
  split at hp
  · rename_i hk
    have hk : k = 3 ∨ k = 5 := by simpa using hk
    obtain ⟨v, V', h1, h2⟩ := one_put hp
    obtain ⟨hx, hV, hdf, htm⟩ := put_ok h1
    simp only [if_pos hk]
    exact ⟨hx, v, V', by rw [hV], hdf, htm, h2⟩
  · rename_i hk
    have hk : ¬ (k = 3 ∨ k = 5) := fun hh => by rcases hh with rfl | rfl <;> simp at hk
    cases hone : oneGo rec P E all o s (floorUp s) with
    | val v V' => rw [hone] at hp; cases hp
    | bad m n => rw [hone] at hp; cases hp
    | fall y t =>
      rw [hone] at hp
      cases hp
      obtain ⟨v, V', h1, h2⟩ := one_put hone
      obtain ⟨hx, hV, hdf, htm⟩ := put_ok h1
      simp only [if_neg hk]
      exact ⟨hx, v, V', by rw [hV], hdf, htm, h2⟩

def apart1 (a : List Nat) (i : Nat) (f : Option (Nat × Bool)) (g : Nat × Option (Nat × Bool)) : Prop :=
  ∀ b s1 s2, f = some (b, s1) → g.2 = some (b, s2) → (s1 || s2) = true → bit a i g.1 = true
theorem apartF_spec {a : List Nat} {i : Nat} {f : Option (Nat × Bool)} {acc : List (Nat × Option (Nat × Bool))} (h : apartF a i f acc = true) : ∀ g ∈ acc, apart1 a i f g := by
  intro g hg b s1 s2 hf hgf hs
  subst hf
  have := List.all_eq_true.1 (h : (acc.all _) = true) g hg
  simp only [hgf, hs] at this
  simpa using this

theorem lkStep_fall {a : List Nat} {i k : Nat} {lk : List Lk} {E : Env} {r : R} {x : X} {s : St} (h : lkStep a i k lk E r = .fall x s) : r = .fall x s ∧ (k = 5 → ∀ e ∈ lk, bit a i e.1 = true ∨ e.2 s.V = true) := by
  unfold lkStep at h
  split at h
  · rename_i hk
    unfold lkR at h
    split at h
    · rename_i y s1
      split at h
      · rename_i ha
        cases h
        refine ⟨rfl, fun _ e he => ?_⟩
        unfold lkAll at ha
        rw [allL_eq] at ha
        simpa using List.all_eq_true.1 ha e he
      · cases h
    · cases h
    · cases h
  · rename_i hk
    exact ⟨h, fun h5 => by subst h5; simp at hk⟩
theorem addLk_mem {P : Program} {all : List Oper} {o : Oper} {i : Nat} {s s1 : St} {lk : List Lk} : (∀ e ∈ lk, e ∈ addLk P all o i s s1 lk) ∧ (isLook o.op = true → wantGo all o s.tm = true → (i, lkChk P o s s1) ∈ addLk P all o i s s1 lk) := by
  unfold addLk
  refine ⟨fun e he => ?_, fun h1 h2 => ?_⟩
  · split
    · split
      · exact List.mem_cons_of_mem _ he
      · exact he
    · exact he
  · rw [h1, h2]; exact List.mem_cons_self
theorem draw_run {rec : Rec} {E : Env} {all : List Oper} {a : List Nat} : ∀ (pl : List (Oper × Nat)) (i : Nat) (acc : List (Nat × Option (Nat × Bool))) (lk : List Lk) (s s' : St) (x : X), drawGo rec P E all a pl i acc lk s = .fall x s' →
    x = .normal ∧ ∃ S : Nat → St, S 0 = s ∧ S pl.length = s' ∧ ∀ j (h : j < pl.length), oneDraw rec P E all pl[j].1 pl[j].2 (S j) = .fall .normal (S (j + 1)) ∧
      (∀ g ∈ acc, apart1 a (i + j) (foot all pl[j].1 (S j).tm) g) ∧ (∀ t (ht : t < j), apart1 a (i + j) (foot all pl[j].1 (S j).tm) (i + t, foot all (pl[t]'(by omega)).1 (S t).tm)) ∧
      (pl[j].2 = 5 → ∀ e ∈ lk, bit a (i + j) e.1 = true ∨ e.2 (S (j + 1)).V = true) ∧
      ∀ t (ht : t < j), pl[j].2 = 5 → isLook (pl[t]'(by omega)).1.op = true → wantGo all (pl[t]'(by omega)).1 (S t).tm = true → bit a (i + j) (i + t) = true ∨ lkChk P (pl[t]'(by omega)).1 (S t) (S (t + 1)) (S (j + 1)).V = true
  | [], i, acc, lk, s, s', x, hp => by
    cases hp
    exact ⟨rfl, fun _ => s, rfl, rfl, fun j h => by simp at h⟩
  | o :: pl, i, acc, lk, s, s', x, hp => by
    change thenOps (fun s1 => drawGo rec P E all a pl (i + 1) ((i, foot all o.1 s.tm) :: acc) (addLk P all o.1 i s s1 lk) s1) (lkStep a i o.2 lk E (drawStep rec P E all a o.1 o.2 i acc s)) = _ at hp
    obtain ⟨y, s1, h0, h2⟩ := thenOps_fall hp
    obtain ⟨h1, hlk⟩ := lkStep_fall h0
    unfold drawStep at h1
    split at h1
    · rename_i hap
      obtain ⟨rfl, _⟩ := draw_put h1
      obtain ⟨hx, S, e1, e2, e3⟩ := draw_run pl (i + 1) _ _ s1 s' x h2
      refine ⟨hx, fun j => match j with | 0 => s | j + 1 => S j, rfl, e2, fun j h => ?_⟩
      cases j with
      | zero =>
        refine ⟨?_, apartF_spec hap, fun t ht => by omega, fun h5 e he => ?_, fun t ht => by omega⟩
        · show oneDraw rec P E all o.1 o.2 s = .fall .normal (S 0)
          rw [e1]; exact h1
        · show bit a (i + 0) e.1 = true ∨ e.2 (S 0).V = true
          rw [e1]; exact hlk h5 e he
      | succ j =>
        obtain ⟨f1, f2, f3, f4, f5⟩ := e3 j (by simpa using h)
        refine ⟨f1, fun g hg => ?_, fun t ht => ?_, fun h5 e he => ?_, fun t ht h5 hl hw => ?_⟩
        · have := f2 g (List.mem_cons_of_mem _ hg)
          rw [show i + (j + 1) = i + 1 + j from by omega]; exact this
        · cases t with
          | zero =>
            have := f2 (i, foot all o.1 s.tm) (by simp)
            rw [show i + (j + 1) = i + 1 + j from by omega]; exact this
          | succ t =>
            have := f3 t (by omega)
            rw [show i + (j + 1) = i + 1 + j from by omega, show i + (t + 1) = i + 1 + t from by omega]; exact this
        · have := f4 h5 e (addLk_mem.1 e he)
          rw [show i + (j + 1) = i + 1 + j from by omega]; exact this
        · cases t with
          | zero =>
            have := f4 h5 _ (addLk_mem.2 hl hw)
            rw [show i + (j + 1) = i + 1 + j from by omega]
            show bit a (i + 1 + j) i = true ∨ lkChk P o.1 s (S 0) _ = true
            rw [e1]; exact this
          | succ t =>
            have := f5 t (by omega) h5 hl hw
            rw [show i + (j + 1) = i + 1 + j from by omega, show i + (t + 1) = i + 1 + t from by omega]; exact this
    · cases h1
end
end Go.Vx
/-! Regions whose operations come in any order: the run in any order. -/
namespace Go.Vx
variable [Syms]
variable [Keeps]
open Go.RowKit

section
variable {P : Program} {G : VW} {V : VW} {w : World}

/-- What is quiet looks at no memory. -/
theorem quiet_any {o : Oper} (hq : quiet o.op = true) {e : Rho} {v : Value} {V' : VW} (hp : plainGo P o e V = .val v V') : V' = V ∧ ∀ V2, plainGo P o e V2 = .val v V2 := by
  obtain ⟨dst, op, type, pos, after, guard⟩ := o
  have hof : ∀ {x : Option Value} {V' : VW}, ofV V x = .val v V' → V' = V ∧ ∀ V2, ofV V2 x = .val v V2 := fun {x V'} h => by
    obtain ⟨h1, h2⟩ := ofV_spec h
    exact ⟨h2, fun V2 => by rw [h1]; rfl⟩
  cases op <;> first | (cases hq; done) | skip
  case move x => cases hp; exact ⟨rfl, fun _ => rfl⟩
  case assign x => cases hp; exact ⟨rfl, fun _ => rfl⟩
  case pick c a b =>
    change pickO c a b P e V = _ at hp
    change V' = V ∧ ∀ V2, pickO c a b P e V2 = _
    unfold pickO at hp ⊢
    split at hp <;> cases hp <;> exact ⟨rfl, fun _ => rfl⟩
  case build t ps =>
    change buildO t ps P e V = _ at hp
    change V' = V ∧ ∀ V2, buildO t ps P e V2 = _
    unfold buildO at hp ⊢
    split at hp
    · split at hp
      · rename_i hall
        split at hp
        · cases hp; exact ⟨rfl, fun _ => by rw [if_pos hall]⟩
        · cases hp
      · cases hp
    · cases hp
  case nilCheck x =>
    change nilCheckO x P e V = _ at hp
    change V' = V ∧ ∀ V2, nilCheckO x P e V2 = _
    unfold nilCheckO at hp ⊢
    split at hp <;> cases hp <;> exact ⟨rfl, fun _ => rfl⟩
  case fieldAddr t x i =>
    change fieldAddrO t x i P e V = _ at hp
    change V' = V ∧ ∀ V2, fieldAddrO t x i P e V2 = _
    unfold fieldAddrO at hp ⊢
    split at hp
    · split at hp
      · split at hp
        · cases hp
        · cases hp; exact ⟨rfl, fun _ => rfl⟩
      · cases hp
    · cases hp
  case field t x i =>
    change fieldO t x i P e V = _ at hp
    change V' = V ∧ ∀ V2, fieldO t x i P e V2 = _
    unfold fieldO at hp ⊢
    split at hp
    · split at hp
      · exact hof hp
      · cases hp
    · cases hp
  case indexAddr t x i =>
    change indexAddrO t x i P e V = _ at hp
    change V' = V ∧ ∀ V2, indexAddrO t x i P e V2 = _
    unfold indexAddrO at hp ⊢
    split at hp
    · cases hp
    · split at hp
      · split at hp
        · split at hp
          · cases hp; exact ⟨rfl, fun _ => rfl⟩
          · cases hp
        · cases hp
      · split at hp
        · split at hp
          · split at hp
            · cases hp; exact ⟨rfl, fun _ => rfl⟩
            · cases hp
          · cases hp
        · cases hp
  case index t x i =>
    change indexO ⟨dst, .index t x i, type, pos, after, guard⟩ t x i P e V = _ at hp
    change V' = V ∧ ∀ V2, indexO ⟨dst, .index t x i, type, pos, after, guard⟩ t x i P e V2 = _
    unfold indexO at hp ⊢
    split at hp
    · split at hp
      · split at hp
        · rename_i hlt
          obtain ⟨h1, h2⟩ := hof hp
          exact ⟨h1, fun V2 => by rw [if_pos hlt]; exact h2 V2⟩
        · cases hp
      · cases hp
    · split at hp
      · rename_i hf
        obtain ⟨h1, h2⟩ := hof hp
        exact ⟨h1, fun V2 => by rw [if_pos hf]; exact h2 V2⟩
      · cases hp
  case extract x i =>
    change extractO x i P e V = _ at hp
    change V' = V ∧ ∀ V2, extractO x i P e V2 = _
    unfold extractO at hp ⊢
    split at hp
    · exact hof hp
    · cases hp
  case binOp op t x y yt =>
    change binO ⟨dst, .binOp op t x y yt, type, pos, after, guard⟩ op t x y P e V = _ at hp
    change V' = V ∧ ∀ V2, binO ⟨dst, .binOp op t x y yt, type, pos, after, guard⟩ op t x y P e V2 = _
    unfold binO at hp ⊢
    split at hp
    · cases hp; exact ⟨rfl, fun _ => rfl⟩
    · split at hp
      · cases hp; exact ⟨rfl, fun _ => rfl⟩
      · split at hp
        · cases hp; exact ⟨rfl, fun _ => rfl⟩
        · split at hp
          · rename_i hf
            obtain ⟨h1, h2⟩ := hof hp
            exact ⟨h1, fun V2 => by rw [if_pos hf]; exact h2 V2⟩
          · rename_i hf
            obtain ⟨h1, h2⟩ := hof hp
            exact ⟨h1, fun V2 => by rw [if_neg hf]; exact h2 V2⟩
  case unOp op t x =>
    change unO ⟨dst, .unOp op t x, type, pos, after, guard⟩ op x P e V = _ at hp
    change V' = V ∧ ∀ V2, unO ⟨dst, .unOp op t x, type, pos, after, guard⟩ op x P e V2 = _
    unfold unO at hp ⊢
    split at hp
    · split at hp
      · cases hp; exact ⟨rfl, fun _ => rfl⟩
      · cases hp
    · split at hp
      · rename_i hf
        obtain ⟨h1, h2⟩ := hof hp
        exact ⟨h1, fun V2 => by rw [if_pos hf]; exact h2 V2⟩
      · cases hp
  case convert s d x =>
    change convertO ⟨dst, .convert s d x, type, pos, after, guard⟩ s d x P e V = _ at hp
    change V' = V ∧ ∀ V2, convertO ⟨dst, .convert s d x, type, pos, after, guard⟩ s d x P e V2 = _
    unfold convertO at hp ⊢
    split at hp
    · cases hp; exact ⟨rfl, fun _ => rfl⟩
    · split at hp
      · rename_i hf
        obtain ⟨h1, h2⟩ := hof hp
        exact ⟨h1, fun V2 => by rw [if_pos hf]; exact h2 V2⟩
      · rename_i hf
        split at hp
        · obtain ⟨h1, h2⟩ := hof hp
          exact ⟨h1, fun V2 => by rw [if_neg hf]; exact h2 V2⟩
        · cases hp
  case makeFunc fn a b =>
    change makeFuncO fn a b P e V = _ at hp
    change V' = V ∧ ∀ V2, makeFuncO fn a b P e V2 = _
    unfold makeFuncO at hp ⊢
    split at hp
    · rename_i hn
      cases hp; exact ⟨rfl, fun _ => by rw [if_pos hn]⟩
    · cases hp

theorem opGo_plain {rec : Rec} {E : Env} {o : Oper} {s : St} (h : ∀ c, o.op ≠ .call c) (V : VW) : opGo rec P E o s V = plainGo P o (ev s.tm) V := by
  unfold opGo opGk
  obtain ⟨dst, op, type, pos, after, guard⟩ := o
  cases op <;> first | rfl | exact absurd rfl (h _)

/-- A heap of which nothing is known. -/
theorem blank (N : Nat) (hN : N ≤ top) : ∃ t : T VObj, ∀ x, (x < N → t.get x = some (.dfr true)) ∧ (N ≤ x → t.get x = none) := by
  induction N with
  | zero => exact ⟨.nil, fun x => ⟨fun h => by omega, fun _ => rfl⟩⟩
  | succ N ih =>
    obtain ⟨t, ht⟩ := ih (by omega)
    refine ⟨t.set 21 N (.dfr true), fun x => ?_⟩
    rw [T.get_put _ _ _ (by omega)]
    by_cases hx : x = N
    · subst hx; rw [if_pos rfl]; exact ⟨fun _ => rfl, fun h => by omega⟩
    · rw [if_neg hx]
      exact ⟨fun h => (ht x).1 (by omega), fun h => (ht x).2 (by omega)⟩

/-- What is quiet, over a renaming alone. -/
theorem quiet_ok {β : Nat → Ren} {N : Nat} (hN : N ≤ top) (hgl : ∀ g, g < P.globals.size → β g = .live g 0 0) (hgN : P.globals.size ≤ N) (hout : ∀ x, N ≤ x → β x = .fresh)
    (hlive : ∀ x b cp sh, β x = .live b cp sh → b < w.heap.size) (hinj : ∀ i j b cp sh cp' sh', β i = .live b cp sh → β j = .live b cp' sh' → i = j)
    {o : Oper} (hq : quiet o.op = true) {e ρ : Rho} (hρ : ∀ x ∈ o.op.operands, VR β (e x) (ρ x)) {v : Value} {V' : VW} (hp : plainGo P o e V = .val v V') :
    ∃ v' w', VR β v v' ∧ RunsTo P (execOp ρ o) w v' w' ∧ Below w.heap.size w w' := by
  obtain ⟨t, ht⟩ := blank N hN
  have hW : WR P ⟨w, ⟨t, N, N⟩, β, w, fun _ => False⟩ β ⟨t, N, N⟩ w := by
    refine ⟨hgl, hgN, Nat.le_refl _, hN, hout, ?_, ?_, hinj, ?_, fun _ _ => rfl, rfl, fun _ _ => rfl, Nat.le_refl _, .refl _ _, fun _ hp => hp.elim, fun _ _ hf => ⟨hf, rfl⟩, ?_⟩
    · intro i b cp sh he
      have hi : i < N := by
        rcases Nat.lt_or_ge i N with h | h
        · exact h
        · rw [hout i h] at he; cases he
      have hb := hlive i b cp sh he
      exact ⟨_, _, (ht i).1 hi, Array.getElem?_eq_getElem hb, .dfrT⟩
    · intro i he
      have hi : i < N := by
        rcases Nat.lt_or_ge i N with h | h
        · exact h
        · rw [hout i h] at he; cases he
      exact (ht i).1 hi
    · intro i b cp sh he hi
      have : N ≤ i := hi
      rw [hout i this] at he; cases he
    · intro i o ho
      rcases Nat.lt_or_ge i N with h | h
      · have := (ht i).1 h
        have ho' : t.get i = some o := ho
        rw [this] at ho'; cases ho'; exact .dead P _
      · have := (ht i).2 h
        have ho' : t.get i = some o := ho
        rw [this] at ho'; cases ho'
  have hp' := (quiet_any hq hp).2 ⟨t, N, N⟩
  obtain ⟨β', v', w', h1, h2, h3, h4⟩ := plain_ok hW hρ hp'
  have hlow : ∀ i, i < N → β' i = β i := h2.low
  have hout' : ∀ i, N ≤ i → β' i = .fresh := h2.out
  have heq : β' = β := by
    funext x
    rcases Nat.lt_or_ge x N with h | h
    · exact hlow x h
    · rw [hout' x h, hout x h]
  rw [heq] at h3
  exact ⟨v', w', h3, h4, h2.base⟩
end

section
variable {P : Program} {G : VW} {B : Base} {β : Nat → Ren} {V : VW} {w : World}
def reB (B : Base) (β : Nat → Ren) (V : VW) (w : World) : Base := ⟨B.w0, V, β, w, B.prot⟩
theorem WR.re (h : WR P B β V w) : WR P (reB B β V w) β V w :=
  ⟨h.glob, h.gfl, h.gsz, h.tops, h.out, h.obj, h.dead, h.inj, h.own, fun _ _ => rfl, rfl, fun _ _ => rfl, Nat.le_refl _, h.base, fun b hp => ⟨(h.kept b hp).1, rfl⟩, fun _ _ hf => ⟨hf, rfl⟩, h.bd⟩
theorem HB.re (hB : HB P G B) (h : WR P B β V w) : HB P G (reB B β V w) := ⟨fun g hg => by
  rw [← hB.1 g hg]; exact h.keep g (Nat.lt_of_lt_of_le hg h.gfl), hB.2⟩
theorem WR.back (h : WR P B β V w) {β' : Nat → Ren} {V' : VW} {w' : World} (h1 : WR P (reB B β V w) β' V' w') : WR P B β' V' w' := by
  have hfl : V'.floor = V.floor := h1.flo
  have hgr : V.size ≤ V'.size := h1.grow
  refine ⟨h1.glob, h1.gfl, h1.gsz, h1.tops, h1.out, h1.obj, h1.dead, h1.inj, h1.own, fun i hi => ?_, hfl.trans h.flo, fun i hi => ?_, Nat.le_trans h.grow hgr, h1.base, fun b hp => ?_, fun i hi hf => ?_, h1.bd⟩
  · exact (h1.keep i hi).trans (h.keep i (by rw [← hfl]; exact hi))
  · exact (h1.low i hi).trans (h.low i (by rw [← hfl]; exact hi))
  · exact ⟨(h1.kept b hp).1, (h1.kept b hp).2.trans (h.kept b hp).2⟩
  · obtain ⟨k1, k2⟩ := h.frz i hi hf
    obtain ⟨k3, k4⟩ := h1.frz i (Nat.lt_of_lt_of_le hi h.grow) k1
    exact ⟨k3, k4.trans k2⟩

theorem oneDraw_cases {rec : Rec} {E : Env} {all : List Oper} {o : Oper} {k : Nat} {s s1 : St} {x : X} (hp : oneDraw rec P E all o k s = .fall x s1) :
    ((k = 3 ∨ k = 5) ∧ oneGo rec P E all o s s.V = .fall x s1) ∨ (¬ (k = 3 ∨ k = 5) ∧ ∃ t, oneGo rec P E all o s (upV s.V) = .fall x t ∧ s1 = ⟨t.tm, ⟨t.V.heap, t.V.size, s.V.floor⟩, t.df⟩) := by
  unfold oneDraw at hp
  split at hp
  · rename_i hk
    exact .inl ⟨by simpa using hk, hp⟩
  · rename_i hk
    refine .inr ⟨fun hh => by rcases hh with rfl | rfl <;> simp at hk, ?_⟩
    cases hone : oneGo rec P E all o s (floorUp s) with
    | val v V' => rw [hone] at hp; cases hp
    | bad m n => rw [hone] at hp; cases hp
    | fall y t => rw [hone] at hp; cases hp; exact ⟨t, hone, rfl⟩

theorem cls_three {l : List Oper} {i : Nat} (h : i < l.length) (hc : (clsL l)[i]? = some 3) : clsOf l[i].op = 3 := by
  rw [cls_get l i h] at hc
  split at hc
  · cases hc
  · exact Option.some.inj hc
theorem clsOf_three {op : Op} (h : clsOf op = 3) : ∃ t a v, op = .store t a v := by
  cases op <;> first | exact ⟨_, _, _, rfl⟩ | (simp [clsOf, quiet] at h; done)

/-- The block that a store writes. -/
theorem store_foot {rec : Rec} {E : Env} {all : List Oper} {o : Oper} {t : TypeId} {a x : Operand} (ho : o.op = .store t a x) {s : St} {v : Value} {V' : VW} (hw : wantGo all o s.tm = true) (hop : opGo rec P E o s V = .val v V') :
    ∃ b off l ob c e, ev s.tm a = .pointer (some ⟨b, off, none⟩) ∧ foot all o s.tm = some (b, true) ∧ V.heap.get b = some ob ∧ ob ≠ .dfr true ∧ (∀ {β : Nat → Ren} {cp sh : Nat} {o' : Obj}, ObjR P β cp sh ob o' → ObjR P β cp sh (.cells c e false) o') ∧ V.floor ≤ b ∧ off + l.length ≤ c.length ∧ V' = V.put b (.cells (splice c off l) e false) ∧
      v = undef ∧ l = cellsL (ev s.tm x) ∧ sizeA P t = some l.length ∧ l.all Value.oneCell' = true := by
  rw [opGo_plain (fun c hh => by rw [ho] at hh; cases hh)] at hop
  have hop' : storeO t a x P (ev s.tm) V = .val v V' := by
    unfold plainGo opK at hop; rw [ho] at hop; exact hop
  obtain ⟨h1, rfl⟩ := optW_spec hop'
  unfold storeGo at h1
  split at h1
  · rename_i bo hbo
    obtain ⟨b, off⟩ := bo
    split at h1
    · rename_i n hn
      split at h1
      · rename_i hl
        have hl := Nat.eq_of_beq_eq_true hl
        rw [lenL_eq] at hl
        split at h1
        · rename_i hone
          rw [allL_eq] at hone
          obtain ⟨ob, c, e, hg, hne, hrel, hfl, hle, rfl⟩ := writeAt_spec (P := P) h1
          refine ⟨b, off, _, ob, c, e, blockOf_spec hbo, ?_, hg, hne, hrel, hfl, hle, rfl, rfl, rfl, by rw [hn, hl], hone⟩
          unfold foot; rw [hw, ho]; simp only [footOf, hbo]; rfl
        · cases h1
      · cases h1
    · cases h1
  · cases h1
end

/-! ### The relation in between -/
section
variable (P : Program) (G : VW) (rec : Rec) (E : Env) (ops : Array Oper) (S : Nat → St) (B : Base)

/-- The operation writes the block. -/
def Wr (j x : Nat) : Prop := ((clsL ops.toList)[j]? = some 5 ∧ (S 0).V.floor ≤ x ∧ x < (S j).V.size) ∨ ∃ o, ops[j]? = some o ∧ foot ops.toList o (S j).tm = some (x, true)
def Settled (D : Nat → Prop) (k x : Nat) : Prop := ∀ j, j < ops.size → Wr ops S j x → (D j ↔ j < k)

structure Inv (D : Nat → Prop) (β : Nat → Ren) (a : Act) (w : World) : Prop where
  closed : Closed ops.toList D
  size : a.tmps.size = E.nt
  tmp : ∀ t i, i ≤ ops.size → (∀ j (_ : j < ops.size) o, ops[j]? = some o → o.dst = some t → (D j ↔ j < i)) → VR β (tget (S i).tm t) (a.tmps.getD t undef)
  df : DR β (S 0).df a.defers
  glob : ∀ g, g < P.globals.size → β g = .live g 0 0
  vis : ∀ x, β x ≠ .fresh → x < (S 0).V.size ∨ ∃ j, D j ∧ j < ops.size ∧ (S j).V.size ≤ x ∧ x < (S (j + 1)).V.size
  mem : ∀ x b cp sh, β x = .live b cp sh → ∃ k, k ≤ ops.size ∧ Settled ops S D k x ∧ x < (S k).V.size ∧ ∃ o o', (S k).V.heap.get x = some o ∧ w.heap[b]? = some o' ∧ ObjR P β cp sh o o'
  dead : ∀ x, β x = .dead → ∃ k, k ≤ ops.size ∧ Settled ops S D k x ∧ x < (S k).V.size ∧ (S k).V.heap.get x = some (.dfr true)
  inj : ∀ i j b cp sh cp' sh', β i = .live b cp sh → β j = .live b cp' sh' → i = j
  own : ∀ i b cp sh, β i = .live b cp sh → (S 0).V.floor ≤ i → B.w0.heap.size ≤ b ∧ ¬ B.prot b
  low : ∀ i, i < (S 0).V.floor → β i = B.β0 i
  base : Below B.w0.heap.size B.w0 w
  kept : ∀ b, B.prot b → b < w.heap.size ∧ w.heap[b]? = B.w1.heap[b]?
  frz : ∀ i, i < B.V0.size → B.β0 i = .fresh → β i = .fresh
  frs : ∀ j, D j → (clsL ops.toList)[j]? = some 5 → ∀ x, x < (S j).V.size → β x = .fresh → (S (j + 1)).V.heap.get x = (S j).V.heap.get x
  wrd : ∀ j, D j → ∀ o x, ops[j]? = some o → foot ops.toList o (S j).tm = some (x, true) → β x ≠ .fresh

/-- What is known of the run in order. -/
structure Facts : Prop where
  run : ∀ i (h : i < ops.size), ∃ k, (clsL ops.toList)[i]? = some k ∧ oneDraw rec P E ops.toList ops[i] k (S i) = .fall .normal (S (i + 1))
  apart : ∀ i (h : i < ops.size), ∀ j (hj : j < i) b s1 s2, foot ops.toList ops[i] (S i).tm = some (b, s1) → foot ops.toList (ops[j]'(by omega)) (S j).tm = some (b, s2) → (s1 || s2) = true → bit (ancsL ops.toList) i j = true
  drawn : Drawn P ops.toList
  ok : okOps P ops.toList = true
  floor : ∀ i, i ≤ ops.size → (S i).V.floor = (S 0).V.floor
  df : ∀ i, i ≤ ops.size → (S i).df = (S 0).df
  size : ∀ i, i < ops.size → (S i).V.size ≤ (S (i + 1)).V.size
  top : ∀ i, i ≤ ops.size → (S i).V.size ≤ top
  gsz : (S 0).V.floor ≤ (S 0).V.size
  gfl : P.globals.size ≤ (S 0).V.floor
  keep : ∀ i, i < ops.size → ∀ x, x < (S i).V.size → ¬ Wr ops S i x → (S (i + 1)).V.heap.get x = (S i).V.heap.get x
  bd : ∀ i, i ≤ ops.size → ∀ x o, (S i).V.heap.get x = some o → Bd P (S i).V.size o
  tmps : ∀ i, i ≤ ops.size → ∀ t, ∃ β0 v0, (∀ y, (S i).V.size ≤ y → β0 y = .fresh) ∧ VR β0 (tget (S i).tm t) v0
  hb : ∀ g, g < P.globals.size → (S 0).V.heap.get g = G.heap.get g
  frz : ∀ i, i ≤ ops.size → ∀ x, x < B.V0.size → B.β0 x = .fresh → (S i).V.heap.get x = B.V0.heap.get x
  grow : B.V0.size ≤ (S 0).V.size
  keep0 : ∀ i, i ≤ ops.size → ∀ x, x < (S 0).V.floor → (S i).V.heap.get x = B.V0.heap.get x
  flo : (S 0).V.floor = B.V0.floor
  ki : Keeps.inv B.w0
  look : ∀ i (h : i < ops.size) j, i < j → j < ops.size → (clsL ops.toList)[j]? = some 5 → isLook ops[i].op = true → wantGo ops.toList ops[i] (S i).tm = true → bit (ancsL ops.toList) j i = true ∨ lkChk P ops[i] (S i) (S (i + 1)) (S (j + 1)).V = true
end

section
variable {P : Program} {G : VW} {rec : Rec} {E : Env} {ops : Array Oper} {S : Nat → St} {B : Base}

theorem facts_of (hG : Good P G rec) (hB : HB P G B) (hok : okOps P ops.toList = true) (hD : Drawn P ops.toList) {β : Nat → Ren} {a : Act} {w : World} (hW : WR P B β (S 0).V w) (hS : SR β E (S 0) a)
    (hrun : ∀ i (h : i < ops.size), ∃ k, (clsL ops.toList)[i]? = some k ∧ oneDraw rec P E ops.toList ops[i] k (S i) = .fall .normal (S (i + 1)))
    (hap : ∀ i (h : i < ops.size), ∀ j (hj : j < i) b s1 s2, foot ops.toList ops[i] (S i).tm = some (b, s1) → foot ops.toList (ops[j]'(by omega)) (S j).tm = some (b, s2) → (s1 || s2) = true → bit (ancsL ops.toList) i j = true)
    (hlk : ∀ i (h : i < ops.size) j, i < j → j < ops.size → (clsL ops.toList)[j]? = some 5 → isLook ops[i].op = true → wantGo ops.toList ops[i] (S i).tm = true → bit (ancsL ops.toList) j i = true ∨ lkChk P ops[i] (S i) (S (i + 1)) (S (j + 1)).V = true) :
    Facts P G rec E ops S B := by
  have step : ∀ i (h : i < ops.size), (∃ β a w, WR P B β (S i).V w ∧ SR β E (S i) a) → (∃ β a w, WR P B β (S (i + 1)).V w ∧ SR β E (S (i + 1)) a) ∧ (S (i + 1)).V.floor = (S i).V.floor ∧ (S (i + 1)).df = (S i).df ∧
      (S i).V.size ≤ (S (i + 1)).V.size ∧ ∀ x, x < (S i).V.size → ((S i).V.floor = (S 0).V.floor → ¬ Wr ops S i x) → (S i).V.floor = (S 0).V.floor → (S (i + 1)).V.heap.get x = (S i).V.heap.get x := by
    rintro i h ⟨β, a, w, hW, hS⟩
    obtain ⟨k, hk, hone⟩ := hrun i h
    have hoj : ops[i]? = some ops[i] := Array.getElem?_eq_getElem h
    have hmem : ops[i] ∈ ops.toList := by simp
    have hoko := okOps_mem hok _ hmem
    have hρ : ∀ x ∈ ops[i].op.operands, VR β (ev (S i).tm x) (a.eval x) := fun x hx => ev_ok hW hS.tm (okOp_mem hoko x hx)
    let b0 : Frame := { fn := 0, tmps := #[], todo := [], defers := [], mode := .run, kind := .normal }
    rcases oneDraw_cases hone with ⟨hk35, hgo⟩ | ⟨hk35, t, hgo, hs1⟩
    · obtain ⟨v, V', hput, β1, v', w1, e1, e2, e3, _⟩ := one_ok hG hgo (hB.re hW) hW.re (want_ok fun t _ _ _ _ => hS.tm.2 t) hρ (b := b0) (rest := []) (k := []) (cs := []) hoj
      obtain ⟨_, hV, hdf, _⟩ := put_ok hput
      have hback := hW.back e2
      refine ⟨⟨β1, a.put ops[i].dst v', w1, by rw [hV]; exact hback, (hS.mono e1).put hput e3⟩, by rw [hV]; exact e2.flo, hdf, by rw [hV]; exact e2.grow, fun x hx hnw hfl0 => ?_⟩
      have hnw := hnw hfl0
      rcases hk35 with rfl | rfl
      · have h3 := cls_three (by simpa using h) hk
        simp only [Array.getElem_toList] at h3
        obtain ⟨ty, ad, vv, hst⟩ := clsOf_three h3
        obtain ⟨v2, V2, hput2, hcase⟩ := one_put hgo
        obtain ⟨_, hV2, _, _⟩ := put_ok hput2
        rcases hcase with ⟨hw1, hop⟩ | ⟨hw1, _, hV3⟩
        · obtain ⟨bb, off, l, ob, c, e, _, hft, hg, _, _, hfl, hle, hVp, _⟩ := store_foot hst hw1 hop
          rw [hV2, hVp]
          have hbt : bb < top := by
            rcases Nat.lt_or_ge bb top with hh | hh
            · exact hh
            · exfalso
              obtain ⟨p, p', q1, _⟩ : ∃ p p' : Nat, True ∧ True := ⟨0, 0, trivial, trivial⟩
              have hx2 : x = x := rfl
              have := hW.tops
              -- a block beyond the heap's end is not there
              have hbd : bb < (S i).V.size := by
                rcases Nat.lt_or_ge bb (S i).V.size with h' | h'
                · exact h'
                · exfalso
                  have ha := hρ ad (by rw [hst]; simp [Op.operands])
                  obtain ⟨b', off', l', ob', c', e', hev, hft', hg', _⟩ := store_foot hst hw1 hop
                  rw [hft] at hft'
                  cases hft'
                  rw [hev] at ha
                  have := idx_ptr (N := (S i).V.size) hW.out ha
                  omega
              omega
          rw [VW.get_put hbt]
          have hxb : ¬ x = bb := fun hh => hnw (.inr ⟨ops[i], hoj, by rw [hft, hh]⟩)
          rw [if_neg hxb]
        · rw [hV2, hV3]
      · have hxf : x < (S i).V.floor := by
          rcases Nat.lt_or_ge x (S i).V.floor with hh | hh
          · exact hh
          · exact absurd (.inl ⟨hk, by rw [← hfl0]; exact hh, hx⟩) hnw
        rw [hV]
        have hfl1 : V'.floor = (S i).V.floor := e2.flo
        exact e2.keep x (by rw [hfl1]; exact hxf)
    · obtain ⟨v, V', hput, β1, v', w1, e1, e2, e3, _⟩ := one_ok hG hgo (hB.up hW) hW.up (want_ok fun t _ _ _ _ => hS.tm.2 t) hρ (b := b0) (rest := []) (k := []) (cs := []) hoj
      obtain ⟨_, hV, hdf, htm⟩ := put_ok hput
      have hSR := (hS.mono e1).put hput e3
      have hfl1 : V'.floor = (S i).V.size := e2.flo
      have hgr : (S i).V.size ≤ V'.size := e2.grow
      rw [hs1]
      refine ⟨⟨β1, a.put ops[i].dst v', w1, ?_, ⟨hSR.tm, hSR.df⟩⟩, rfl, hdf, by simp only [hV]; exact hgr, fun x hx _ _ => ?_⟩
      · simp only [hV]; exact hW.down e2
      · simp only [hV]; exact e2.keep x (by rw [hfl1]; exact hx)
  have all : ∀ i, i ≤ ops.size → (∃ β a w, WR P B β (S i).V w ∧ SR β E (S i) a) ∧ (S i).V.floor = (S 0).V.floor ∧ (S i).df = (S 0).df := by
    intro i
    induction i with
    | zero => exact fun _ => ⟨⟨β, a, w, hW, hS⟩, rfl, rfl⟩
    | succ i ih =>
      intro hi
      obtain ⟨h1, h2, h3⟩ := ih (by omega)
      obtain ⟨k1, k2, k3, _⟩ := step i (by omega) h1
      exact ⟨k1, k2.trans h2, k3.trans h3⟩
  refine ⟨hrun, hap, hD, hok, fun i hi => (all i hi).2.1, fun i hi => (all i hi).2.2, fun i hi => (step i hi (all i (by omega)).1).2.2.2.1, fun i hi => ?_, hW.gsz, hW.gfl, fun i hi x hx hn => ?_, fun i hi => ?_, fun i hi t => ?_, fun g hg => ?_, fun i hi x hx hf => ?_, hW.grow, fun i hi x hx => ?_, hW.flo, hB.2, hlk⟩
  · obtain ⟨_, _, _, h, _⟩ := (all i hi).1; exact h.tops
  · exact (step i hi (all i (by omega)).1).2.2.2.2 x hx (fun _ => hn) (all i (by omega)).2.1
  · obtain ⟨_, _, _, h, _⟩ := (all i hi).1; exact h.bd
  · obtain ⟨β1, a1, _, h, hs⟩ := (all i hi).1; exact ⟨β1, _, h.out, hs.tm.2 t⟩
  · rw [← hB.1 g hg]; exact hW.keep g (Nat.lt_of_lt_of_le hg hW.gfl)
  · obtain ⟨_, _, _, h, _⟩ := (all i hi).1; exact (h.frz x hx hf).2
  · obtain ⟨_, _, _, h, _⟩ := (all i hi).1; exact h.keep x (by rw [(all i hi).2.1]; exact hx)
end
end Go.Vx
/-! Regions whose operations come in any order: one step of any order. -/
namespace Go.Vx
variable [Syms]
variable [Keeps]
open Go.RowKit

theorem eqB_eq : ∀ {l m : List UInt8}, eqB l m = true → l = m
  | [], [], _ => rfl
  | [], _ :: _, h => by cases h
  | _ :: _, [], h => by cases h
  | x :: l, y :: m, h => by
    simp only [eqB, Bool.and_eq_true] at h
    rw [UInt8.toNat_inj.1 (Nat.eq_of_beq_eq_true h.1), eqB_eq h.2]
theorem eq1_eq {x y : Value} (h : eq1 x y = true) : x = y := by
  unfold eq1 at h
  split at h
  · simp only [Bool.and_eq_true] at h
    obtain ⟨h1, h2⟩ := h
    rw [eqI_eq] at h2
    rw [kindN_inj h1, eq_of_beq h2]
  · rw [eq_of_beq h]
  · rw [Nat.eq_of_beq_eq_true h]
  · simp only [Bool.and_eq_true] at h
    rw [Nat.eq_of_beq_eq_true h.1, Nat.eq_of_beq_eq_true h.2]
  · rename_i a b
    have := eqB_eq h
    obtain ⟨⟨a⟩⟩ := a
    obtain ⟨⟨b⟩⟩ := b
    simp only at this
    rw [this]
  · cases h
theorem eqL1_eq : ∀ {l m : List Value}, eqL1 l m = true → l = m
  | [], [], _ => rfl
  | [], _ :: _, h => by cases h
  | _ :: _, [], h => by cases h
  | x :: l, y :: m, h => by
    simp only [eqL1, Bool.and_eq_true] at h
    rw [eq1_eq h.1, eqL1_eq h.2]
theorem eqv_eq {x y : Value} (h : eqv x y = true) : x = y := by
  unfold eqv at h
  split at h
  · rename_i a
    split at h
    · rename_i b
      have := eqL1_eq h
      obtain ⟨a⟩ := a
      obtain ⟨b⟩ := b
      simp only at this
      rw [this]
    · cases h
  · exact eq1_eq h
  · exact eq1_eq h
  · exact eq1_eq h
  · exact eq1_eq h
  · exact eq1_eq h
  · cases h
theorem eqA_eq : ∀ {l m : List Value}, eqA l m = true → l = m
  | [], [], _ => rfl
  | [], _ :: _, h => by cases h
  | _ :: _, [], h => by cases h
  | x :: l, y :: m, h => by
    simp only [eqA, Bool.and_eq_true] at h
    rw [eqv_eq h.1, eqA_eq h.2]
theorem eqw_eq {x y : Value} (h : eqw x y = true) : x = y := by
  unfold eqw at h
  split at h
  · rename_i a
    split at h
    · rename_i b
      have := eqA_eq h
      obtain ⟨a⟩ := a
      obtain ⟨b⟩ := b
      simp only at this
      rw [this]
    · cases h
  · exact eqv_eq h

section
variable {P : Program} {β : Nat → Ren} {V : VW} {w : World}
/-- A load, a store of a block that is known. -/
theorem load_core {y off b cp sh : Nat} {ob : VObj} {o' : Obj} {t : TypeId} {u : Value} (hg : V.heap.get y = some ob) (hb : w.heap[b]? = some o') (ho : ObjR P β cp sh ob o') (hl : loadGo P t V (.pointer (some ⟨y, off, none⟩)) = some u) :
    ∃ u', (Instr.loadAt t (.pointer (some ⟨b, off + sh, none⟩))).run P w = .ok u' w ∧ VR β u u' := by
  have hl' : (match rowOf (V.heap.get y) with
    | some c => match lay P t with
      | some la => loadAt la off c
      | none => none
    | none => none) = some u := hl
  split at hl'
  · rename_i c hrow
    obtain ⟨ob', hg', hne, hrel⟩ := rowOf_rel (P := P) hrow
    rw [hg] at hg'; cases hg'
    obtain ⟨e, fz, ho⟩ := hrel ho
    obtain ⟨pre, mid, post, fr, rfl, rfl, hr, _, _⟩ := ho.inv
    split at hl'
    · rename_i la hlay
      obtain ⟨n, g⟩ := la
      obtain ⟨i, d, hi, hd, rfl, rfl⟩ := lay_spec hlay
      rcases loadAt_spec hl' with ⟨hag, hle, rfl⟩ | ⟨hag, hu⟩
      · simp only at hag hle
        refine ⟨.agg ⟨(mid.drop off).take i.size⟩, ?_, .agg ((hr.drop off).take _)⟩
        have hll := row_load (P := P) hb off i.size (by rw [hr.length]; exact hle)
        simp [Instr.loadAt, Instr.sureAddr, loadVar, run_isAgg hd, hag, run_size hi, hll]
      · simp only at hag hu
        obtain ⟨u', h1, h2⟩ := hr.get? hu
        refine ⟨u', ?_, h2⟩
        have hc := row_cell hb off (j := 0) (v := u') (by rw [List.getElem?_drop]; exact h1)
        rw [addr_add] at hc
        simp only [Nat.add_zero] at hc
        simp [Instr.loadAt, Instr.sureAddr, loadVar, run_isAgg hd, hag, hc]
    · cases hl'
  · cases hl'

theorem store_core {off b cp sh : Nat} {c : List Value} {e : TypeId} {o' : Obj} {t : TypeId} {x x' : Value} (hb : w.heap[b]? = some o') (ho : ObjR P β cp sh (.cells c e false) o') (hx : VR β x x')
    (hle : off + (cellsL x).length ≤ c.length) (hsz : sizeA P t = some (cellsL x).length) (hone : (cellsL x).all Value.oneCell' = true) :
    ∃ o2, (Instr.storeAt t (.pointer (some ⟨b, off + sh, none⟩)) x').run P w = .ok () (w.putObj b o2) ∧ ObjR P β cp sh (.cells (splice c off (cellsL x)) e false) o2 := by
  obtain ⟨pre, mid, post, fr, rfl, rfl, hr, hcap, hfz⟩ := ho.inv
  have hfr := hfz rfl
  subst hfr
  have hl := hx.cellsL
  have hll : off + (cellsL x').length ≤ mid.length := by rw [hl.length, hr.length]; exact hle
  have hrun := run_storeCells_at P b (off + pre.length) e (cellsL x') 0 _ w hb (by simp; omega) (by
    have := hl.one hone
    simpa using this)
  simp only [Nat.add_zero] at hrun
  rw [putObj_setRow hb, splice_row _ _ _ _ _ hll] at hrun
  refine ⟨.cells ⟨pre ++ (splice mid off (cellsL x') ++ post)⟩ e (0, 0), ?_, ObjR.cells (pre := pre) (mid := splice mid off (cellsL x')) (post := post) rfl (hr.splice hl off) (by rw [splice_length _ _ _ hll]; exact hcap) (fun _ => rfl)⟩
  simp [Instr.storeAt, Instr.sureAddr, storeVar, run_sizeA hsz, cells_eq, hl.length, hrun]

/-- An operand, over a renaming alone. -/
theorem ev_any (hgl : ∀ g, g < P.globals.size → β g = .live g 0 0) {s : St} {a : Act} {x : Operand} (hx : okO P x = true) (ht : ∀ t, x = .tmp t → VR β (tget s.tm t) (a.tmps.getD t undef)) : VR β (ev s.tm x) (a.eval x) := by
  cases x with
  | tmp t => exact ht t rfl
  | const v => exact VR.flat hx
  | global g => exact VR.ptr (o := 0) (hgl g (blt_lt hx))
  | func f => exact .atom rfl
end

section
variable {P : Program} {G : VW} {rec : Rec} {E : Env} {ops : Array Oper} {S : Nat → St} {B : Base} {D : Nat → Prop} {β : Nat → Ren} {a : Act} {w : World}

theorem clsL_of {i : Nat} (h : i < ops.size) {k : Nat} (hk : (clsL ops.toList)[i]? = some k) : (k = clsOf ops[i].op ∧ k ≠ 5) ∨ (k = 5 ∧ clsOf ops[i].op = 4) := by
  rw [cls_get ops.toList i (by simpa using h)] at hk
  simp only [Array.getElem_toList] at hk
  split at hk
  · rename_i hc
    simp only [Bool.and_eq_true, beq_iff_eq] at hc
    exact .inr ⟨(Option.some.inj hk).symm, hc.1.1⟩
  · have hk := (Option.some.inj hk).symm
    refine .inl ⟨hk, fun h5 => ?_⟩
    rw [h5] at hk
    cases hq : ops[i].op <;> rw [hq] at hk <;> simp [clsOf, quiet] at hk

theorem foot_store {o : Oper} {tm : T Value} {x : Nat} {all : List Oper} (h : foot all o tm = some (x, true)) : clsOf o.op = 3 := by
  unfold foot at h
  split at h
  · unfold footOf at h
    split at h
    · rename_i hq; cases hbo : blockOf (ev tm _) <;> rw [hbo] at h <;> cases h
    · rename_i hq; rw [hq]; rfl
    · cases h
  · cases h

/-- What stands in order has been done just if it comes before. -/
theorem ord_settle (F : Facts P G rec E ops S B) (I : Inv P E ops S B D β a w) {i : Nat} (hr : ReadyD ops.toList D i) {j : Nat} (hj : j < ops.size) (hne : i ≠ j) (ho : ordB (ancsL ops.toList) i j = true) : D j ↔ j < i := by
  obtain ⟨hi, hDi, hall⟩ := hr
  have hn : ops.toList.length = ops.size := by simp
  unfold ordB at ho
  rcases Nat.lt_or_ge j i with h | h
  · rw [Nat.max_eq_left (by omega), Nat.min_eq_right (by omega)] at ho
    exact ⟨fun _ => h, fun _ => anc_in F.drawn.ord I.closed (i + 1) i (by omega) hi j ho hall⟩
  · rw [Nat.max_eq_right (by omega), Nat.min_eq_left (by omega)] at ho
    refine ⟨fun hD => ?_, fun h' => by omega⟩
    exact absurd (anc_in F.drawn.ord I.closed (j + 1) j (by omega) (by omega) i ho (I.closed j (by omega) hD)) hDi

theorem size_le (F : Facts P G rec E ops S B) : ∀ (j i : Nat), i ≤ j → j ≤ ops.size → (S i).V.size ≤ (S j).V.size := by
  intro j
  induction j with
  | zero => intro i hi _
            have : i = 0 := by omega
            subst this
            exact Nat.le_refl _
  | succ j ih =>
    intro i hi hj
    rcases Nat.lt_or_ge i (j + 1) with h | h
    · exact Nat.le_trans (ih i (by omega) (by omega)) (F.size j (by omega))
    · have : i = j + 1 := by omega
      subst this; exact Nat.le_refl _

theorem chain_le (F : Facts P G rec E ops S B) {x k : Nat} (hx : x < (S k).V.size) : ∀ (k' : Nat), k ≤ k' → k' ≤ ops.size → (∀ j, k ≤ j → j < k' → ¬ Wr ops S j x ∨ (S (j + 1)).V.heap.get x = (S j).V.heap.get x) → (S k').V.heap.get x = (S k).V.heap.get x := by
  intro k'
  induction k' with
  | zero => intro h _ _
            have : k = 0 := by omega
            subst this
            rfl
  | succ k' ih =>
    intro h hn hw
    rcases Nat.lt_or_ge k (k' + 1) with hlt | hge
    · rw [← ih (by omega) (by omega) fun j h1 h2 => hw j h1 (by omega)]
      rcases hw k' (by omega) (by omega) with h1 | h1
      · exact F.keep k' (by omega) x (Nat.lt_of_lt_of_le hx (size_le F k' k (by omega) (by omega))) h1
      · exact h1
    · have : k = k' + 1 := by omega
      subst this; rfl

theorem chain (F : Facts P G rec E ops S B) {x k k' : Nat} (hk : k ≤ ops.size) (hk' : k' ≤ ops.size) (h1 : Settled ops S D k x) (h2 : Settled ops S D k' x) (hx : x < (S k).V.size) (hx' : x < (S k').V.size) :
    (S k').V.heap.get x = (S k).V.heap.get x := by
  rcases Nat.le_total k k' with h | h
  · refine chain_le F hx k' h hk' fun j hj1 hj2 => .inl fun hw => ?_
    have a1 := h1 j (by omega) hw
    have a2 := h2 j (by omega) hw
    exact absurd (a1.1 (a2.2 hj2)) (by omega)
  · refine (chain_le F hx' k h hk fun j hj1 hj2 => .inl fun hw => ?_).symm
    have a1 := h1 j (by omega) hw
    have a2 := h2 j (by omega) hw
    exact absurd (a2.1 (a1.2 hj2)) (by omega)

theorem step_tm (F : Facts P G rec E ops S B) {i : Nat} (h : i < ops.size) {t : Nat} (hd : ops[i].dst ≠ some t) : tget (S (i + 1)).tm t = tget (S i).tm t := by
  obtain ⟨k, _, hone⟩ := F.run i h
  obtain ⟨_, v, V', _, _, htm, _⟩ := draw_put hone
  rcases htm with ⟨_, htm⟩ | ⟨t', hd', _, ht, htm⟩
  · rw [htm]
  · rw [htm, tget_set ht, if_neg (fun hh => hd (by rw [hd', hh]))]

/-- The temporaries behind a step. -/
theorem tmp_step (F : Facts P G rec E ops S B) (I : Inv P E ops S B D β a w) {i : Nat} (hr : ReadyD ops.toList D i) (hi : i < ops.size) {β' : Nat → Ren} (hx : Ext β β') {v v' : Value} (hv : VR β' v v')
    (hput : (ops[i].dst = none ∧ (S (i + 1)).tm = (S i).tm) ∨ ∃ t, ops[i].dst = some t ∧ t < E.nt ∧ t < top ∧ (S (i + 1)).tm = (S i).tm.set 21 t v) :
    ∀ t m, m ≤ ops.size → (∀ j (_ : j < ops.size) o, ops[j]? = some o → o.dst = some t → ((D j ∨ j = i) ↔ j < m)) → VR β' (tget (S m).tm t) ((a.put ops[i].dst v').tmps.getD t undef) := by
  intro t m hm hset
  have hoi : ops[i]? = some ops[i] := Array.getElem?_eq_getElem hi
  by_cases hd : ops[i].dst = some t
  · have him : i < m := (hset i hi _ hoi hd).1 (.inr rfl)
    rcases hput with ⟨hn, _⟩ | ⟨t', hd', hnt, htop, htm⟩
    · rw [hn] at hd; cases hd
    · rw [hd'] at hd; cases hd
      have hcon : ∀ k, i + 1 ≤ k → k ≤ m → tget (S k).tm t = v := by
        intro k
        induction k with
        | zero => intro h; omega
        | succ k ih =>
          intro h1 h2
          rcases Nat.lt_or_ge i k with h | h
          · have hkn : k < ops.size := by omega
            rw [step_tm F hkn, ih (by omega) (by omega)]
            intro hdk
            have hDk := (hset k hkn _ (Array.getElem?_eq_getElem hkn) hdk).2 (by omega)
            have hDk : D k := by rcases hDk with h' | h'; exact h'; omega
            have hord := F.drawn.tmp k (by simpa using hkn) t (by simpa using hdk) i (by simpa using hi) (by omega) (.inr (by simpa using hd'))
            have := (ord_settle F I hr hkn (by omega) hord).1 hDk
            omega
          · have : k = i := by omega
            subst this
            rw [htm, tget_set htop, if_pos rfl]
      rw [hcon m (by omega) (Nat.le_refl _), hd']
      show VR β' v ((a.tmps.setIfInBounds t v').getD t undef)
      rw [getD_set (by rw [I.size]; exact hnt), if_pos rfl]
      exact hv
  · have hold : VR β (tget (S m).tm t) (a.tmps.getD t undef) := I.tmp t m hm fun j hj o ho hdo => by
      have := hset j hj o ho hdo
      have hne : j ≠ i := fun hh => by subst hh; rw [hoi] at ho; cases ho; exact hd hdo
      constructor
      · intro h; exact this.1 (.inl h)
      · intro h; rcases this.2 h with h' | h'; exact h'; exact absurd h' hne
    have heq : (a.put ops[i].dst v').tmps.getD t undef = a.tmps.getD t undef := by
      rcases hput with ⟨hn, _⟩ | ⟨t', hd', hnt, _, _⟩
      · rw [hn]; rfl
      · rw [hd']
        show (a.tmps.setIfInBounds t' v').getD t undef = _
        rw [getD_set (by rw [I.size]; exact hnt), if_neg (fun hh => hd (by rw [hd', hh]))]
    rw [heq]
    exact hold.mono hx

theorem look_tmp (F : Facts P G rec E ops S B) (I : Inv P E ops S B D β a w) {i : Nat} (hr : ReadyD ops.toList D i) (hi : i < ops.size) {t : Nat} (ht : t ∈ looksL ops.toList ops[i]) : VR β (tget (S i).tm t) (a.tmps.getD t undef) := by
  refine I.tmp t i (by omega) fun j hj o ho hd => ?_
  by_cases hji : j = i
  · subst hji; exact ⟨fun h => absurd h hr.2.1, fun h => by omega⟩
  · have hoj : o = ops[j] := by rw [Array.getElem?_eq_getElem hj] at ho; exact (Option.some.inj ho).symm
    subst hoj
    exact ord_settle F I hr hj (fun h => hji h.symm) (F.drawn.tmp j (by simpa using hj) t (by simpa using hd) i (by simpa using hi) (fun h => hji h.symm) (.inl (by simpa using ht)))

theorem look_op (F : Facts P G rec E ops S B) (I : Inv P E ops S B D β a w) {i : Nat} (hr : ReadyD ops.toList D i) (hi : i < ops.size) : ∀ x ∈ ops[i].op.operands, VR β (ev (S i).tm x) (a.eval x) := by
  intro x hx
  have hok := okOp_mem (okOps_mem F.ok ops[i] (by simp)) x hx
  refine ev_any I.glob hok fun t ht => look_tmp F I hr hi ?_
  subst ht
  unfold looksL
  exact List.mem_append_left _ (List.mem_filterMap.2 ⟨.tmp t, by simpa using hx, rfl⟩)

theorem look_want (F : Facts P G rec E ops S B) (I : Inv P E ops S B D β a w) {i : Nat} (hr : ReadyD ops.toList D i) (hi : i < ops.size) : wantGo ops.toList ops[i] (S i).tm = Region.wanted ops[i] (yielded ops a.tmps) := by
  refine want_ok fun t j wn hg hd => look_tmp F I hr hi ?_
  unfold looksL guardT
  rw [hg]
  simp only [Option.map_some, Array.getElem?_toList, hd]
  simp

theorem closed_step (I : Inv P E ops S B D β a w) {i : Nat} (hr : ReadyD ops.toList D i) : Closed ops.toList (fun j => D j ∨ j = i) := by
  intro j hj hD e he hb
  rcases hD with hD | rfl
  · exact .inl (I.closed j hj hD e he hb)
  · exact .inl (hr.2.2 e he hb)

theorem settled_same {i k x : Nat} (h : Settled ops S D k x) (hn : ¬ Wr ops S i x) : Settled ops S (fun j => D j ∨ j = i) k x := by
  intro j hj hw
  have hne : j ≠ i := fun hh => by subst hh; exact hn hw
  have := h j hj hw
  constructor
  · rintro (h' | h'); exact this.1 h'; exact absurd h' hne
  · intro h'; exact .inl (this.2 h')
theorem settled_succ {i x : Nat} (hDi : ¬ D i) (h : Settled ops S D i x) : Settled ops S (fun j => D j ∨ j = i) (i + 1) x := by
  intro j hj hw
  have := h j hj hw
  constructor
  · rintro (h' | h')
    · have := this.1 h'; omega
    · omega
  · intro h'
    rcases Nat.lt_or_ge j i with h1 | h1
    · exact .inl (this.2 h1)
    · exact .inr (by omega)
end
end Go.Vx
/-! Regions whose operations come in any order: a step. -/
namespace Go.Vx
variable [Syms]
variable [Keeps]
open Go.RowKit

section
variable {P : Program} {G : VW} {rec : Rec} {E : Env} {ops : Array Oper} {S : Nat → St} {B : Base} {D : Nat → Prop} {β : Nat → Ren} {a : Act} {w : World}

theorem ordB_comm (a : List Nat) (i j : Nat) : ordB a i j = ordB a j i := by unfold ordB; rw [Nat.max_comm, Nat.min_comm]
theorem ordB_lt {a : List Nat} {i j : Nat} (h : j < i) : ordB a i j = bit a i j := by unfold ordB; rw [Nat.max_eq_left (by omega), Nat.min_eq_right (by omega)]

theorem Ext.back {β β' : Nat → Ren} (x : Ext β β') {i : Nat} (h : β' i = .fresh) : β i = .fresh := by
  cases hb : β i with
  | fresh => rfl
  | dead => have := x.2 i hb; rw [h] at this; cases this
  | live b cp sh => rcases x.1 i b cp sh hb with h' | h' <;> (rw [h] at h'; cases h')
theorem Ext.ne {β β' : Nat → Ren} (x : Ext β β') {i : Nat} (h : β i ≠ .fresh) : β' i ≠ .fresh := fun h' => h (x.back h')
theorem cut_ext (N : Nat) (β : Nat → Ren) : Ext (cutR N β) β := by
  refine ⟨fun j b cp sh e => ?_, fun j e => ?_⟩ <;> (rcases Nat.lt_or_ge j N with h | h) <;> first | (rw [cutR_lt h] at e; first | exact .inl e | exact e) | (rw [cutR_ge h] at e; cases e)

/-- A step, whatever it is. -/
theorem inv_step (F : Facts P G rec E ops S B) (I : Inv P E ops S B D β a w) {i : Nat} (hr : ReadyD ops.toList D i) (hi : i < ops.size) {β' : Nat → Ren} {w' : World} (hx : Ext β β') {v v' : Value} (hv : VR β' v v')
    (hput : (ops[i].dst = none ∧ (S (i + 1)).tm = (S i).tm) ∨ ∃ t, ops[i].dst = some t ∧ t < E.nt ∧ t < top ∧ (S (i + 1)).tm = (S i).tm.set 21 t v)
    (hlow : ∀ x, x < (S 0).V.floor → β' x = β x)
    (hvis : ∀ x, β' x ≠ .fresh → β x ≠ .fresh ∨ ((S i).V.size ≤ x ∧ x < (S (i + 1)).V.size))
    (hmem : ∀ x b cp sh, β' x = .live b cp sh → ∃ k, k ≤ ops.size ∧ Settled ops S (fun j => D j ∨ j = i) k x ∧ x < (S k).V.size ∧ ∃ o o', (S k).V.heap.get x = some o ∧ w'.heap[b]? = some o' ∧ ObjR P β' cp sh o o')
    (hdead : ∀ x, β' x = .dead → ∃ k, k ≤ ops.size ∧ Settled ops S (fun j => D j ∨ j = i) k x ∧ x < (S k).V.size ∧ (S k).V.heap.get x = some (.dfr true))
    (hinj : ∀ i j b cp sh cp' sh', β' i = .live b cp sh → β' j = .live b cp' sh' → i = j)
    (hown : ∀ i b cp sh, β' i = .live b cp sh → (S 0).V.floor ≤ i → B.w0.heap.size ≤ b ∧ ¬ B.prot b)
    (hbase : Below B.w0.heap.size B.w0 w')
    (hkept : ∀ b, B.prot b → b < w'.heap.size ∧ w'.heap[b]? = B.w1.heap[b]?)
    (hfrs : (clsL ops.toList)[i]? = some 5 → ∀ x, x < (S i).V.size → β' x = .fresh → (S (i + 1)).V.heap.get x = (S i).V.heap.get x)
    (hwrd : ∀ x, foot ops.toList ops[i] (S i).tm = some (x, true) → β' x ≠ .fresh) :
    Inv P E ops S B (fun j => D j ∨ j = i) β' (a.put ops[i].dst v') w' := by
  refine ⟨closed_step I hr, ?_, tmp_step F I hr hi hx hv hput, ?_, fun g hg => ?_, fun x h => ?_, hmem, hdead, hinj, hown, fun x h => (hlow x h).trans (I.low x h), hbase, hkept, fun x h1 h2 => ?_, ?_, ?_⟩
  · have : (a.put ops[i].dst v').tmps.size = a.tmps.size := by
      cases hd : ops[i].dst <;> simp [Act.put]
    rw [this]; exact I.size
  · have : (a.put ops[i].dst v').defers = a.defers := by
      cases hd : ops[i].dst <;> simp [Act.put]
    rw [this]; exact I.df.mono hx
  · rw [hlow g (Nat.lt_of_lt_of_le hg F.gfl)]; exact I.glob g hg
  · rcases hvis x h with h | h
    · rcases I.vis x h with h | ⟨j, h1, h2⟩
      · exact .inl h
      · exact .inr ⟨j, .inl h1, h2⟩
    · exact .inr ⟨i, .inr rfl, hi, h⟩
  · have hf := I.frz x h1 h2
    cases hb : β' x with
    | fresh => rfl
    | _ =>
      rcases hvis x (by rw [hb]; nofun) with h | h
      · exact absurd hf h
      · have := size_le F i 0 (by omega) (by omega)
        have := F.grow
        omega
  · rintro j (hD | rfl) h5 x hxs hfx
    · exact I.frs j hD h5 x hxs (hx.back hfx)
    · exact hfrs h5 x hxs hfx
  · rintro j (hD | rfl) o x ho hf
    · exact hx.ne (I.wrd j hD o x ho hf)
    · rw [Array.getElem?_eq_getElem hi] at ho
      cases ho
      exact hwrd x hf

/-- A step that writes nothing that is there. -/
theorem inv_same (F : Facts P G rec E ops S B) (I : Inv P E ops S B D β a w) {i : Nat} (hr : ReadyD ops.toList D i) (hi : i < ops.size) {w' : World} (hb : Below w.heap.size w w') {v v' : Value} (hv : VR β v v')
    (hput : (ops[i].dst = none ∧ (S (i + 1)).tm = (S i).tm) ∨ ∃ t, ops[i].dst = some t ∧ t < E.nt ∧ t < top ∧ (S (i + 1)).tm = (S i).tm.set 21 t v)
    (hm : ∀ x, β x ≠ .fresh → ¬ Wr ops S i x ∨ (x < (S i).V.size ∧ Settled ops S D i x ∧ (S (i + 1)).V.heap.get x = (S i).V.heap.get x))
    (hfrs : (clsL ops.toList)[i]? = some 5 → ∀ x, x < (S i).V.size → β x = .fresh → (S (i + 1)).V.heap.get x = (S i).V.heap.get x)
    (hwrd : ∀ x, foot ops.toList ops[i] (S i).tm = some (x, true) → β x ≠ .fresh) :
    Inv P E ops S B (fun j => D j ∨ j = i) β (a.put ops[i].dst v') w' := by
  have hmv : ∀ x, β x ≠ .fresh → ∀ k, k ≤ ops.size → Settled ops S D k x → x < (S k).V.size → ∃ k', k' ≤ ops.size ∧ Settled ops S (fun j => D j ∨ j = i) k' x ∧ x < (S k').V.size ∧ (S k').V.heap.get x = (S k).V.heap.get x := by
    intro x hx k hk hs hxs
    rcases hm x hx with h | ⟨h1, h2, h3⟩
    · exact ⟨k, hk, settled_same hs h, hxs, rfl⟩
    · exact ⟨i + 1, hi, settled_succ hr.2.1 h2, Nat.lt_of_lt_of_le h1 (F.size i hi), h3.trans (chain F hk (by omega) hs h2 hxs h1)⟩
  refine inv_step F I hr hi (.refl _) hv hput (fun _ _ => rfl) (fun _ h => .inl h) (fun x b cp sh he => ?_) (fun x he => ?_) I.inj I.own (I.base.trans (hb.mono I.base.size)) (fun b hp => ?_) hfrs hwrd
  · obtain ⟨k, h1, h2, h3, o, o', h4, h5, h6⟩ := I.mem x b cp sh he
    obtain ⟨k', g1, g2, g3, g4⟩ := hmv x (by rw [he]; nofun) k h1 h2 h3
    exact ⟨k', g1, g2, g3, o, o', g4.trans h4, by rw [hb.block b (block_lt h5)]; exact h5, h6⟩
  · obtain ⟨k, h1, h2, h3, h4⟩ := I.dead x he
    obtain ⟨k', g1, g2, g3, g4⟩ := hmv x (by rw [he]; nofun) k h1 h2 h3
    exact ⟨k', g1, g2, g3, g4.trans h4⟩
  · obtain ⟨h1, h2⟩ := I.kept b hp
    exact ⟨Nat.lt_of_lt_of_le h1 hb.size, by rw [hb.block b h1]; exact h2⟩

/-- What writes looks at memory. -/
theorem wr_cls {j x : Nat} (hj : j < ops.size) (h : Wr ops S j x) : ((clsL ops.toList)[j]? = some 5 ∧ clsOf ops[j].op = 4) ∨ (foot ops.toList ops[j] (S j).tm = some (x, true) ∧ clsOf ops[j].op = 3) := by
  rcases h with ⟨h, _⟩ | ⟨o, h1, h2⟩
  · rcases clsL_of hj h with ⟨h1, h2⟩ | ⟨_, h2⟩
    · exact absurd rfl h2
    · exact .inl ⟨h, h2⟩
  · rw [Array.getElem?_eq_getElem hj] at h1
    cases h1
    exact .inr ⟨h2, foot_store h2⟩

theorem wr_nolook (F : Facts P G rec E ops S B) {j x : Nat} (hj : j < ops.size) (h : Wr ops S j x) : isLook ops[j].op = false := by
  rcases wr_cls hj h with ⟨h, _⟩ | ⟨_, h⟩
  · have := F.drawn.nolook j (by simpa using hj) h
    simp only [Array.getElem_toList] at this
    exact this
  · cases hq : ops[j].op <;> first | rfl | (rw [hq] at h; simp [clsOf, quiet] at h)
theorem settled_five (F : Facts P G rec E ops S B) (I : Inv P E ops S B D β a w) {i : Nat} (hr : ReadyD ops.toList D i) (hi : i < ops.size) (h5 : (clsL ops.toList)[i]? = some 5) (x : Nat) : Settled ops S D i x := by
  intro j hj hw
  by_cases hij : i = j
  · subst hij; exact ⟨fun h => absurd h hr.2.1, fun h => by omega⟩
  · have h2 : 2 ≤ clsOf ops[j].op := by rcases wr_cls hj hw with ⟨_, h⟩ | ⟨_, h⟩ <;> omega
    rcases F.drawn.five i (by simpa using hi) h5 j (by simpa using hj) hij (by simpa using h2) with h | ⟨h, _⟩
    · exact ord_settle F I hr hj hij h
    · have := wr_nolook F hj hw
      simp only [Array.getElem_toList] at h
      rw [h] at this; cases this

theorem cls_of_three {j : Nat} (hj : j < ops.size) (h : clsOf ops[j].op = 3) : (clsL ops.toList)[j]? = some 3 := by
  rw [cls_get ops.toList j (by simpa using hj)]
  simp only [Array.getElem_toList, h]
  rfl

theorem lenAt_of {i : Nat} (hi : i < ops.size) (h : lenS P ops[i].op = false) : lenAt P ops.toList i = false := by
  unfold lenAt
  rw [List.getElem?_eq_getElem (by simpa using hi)]
  simpa using h

theorem settled_four (F : Facts P G rec E ops S B) (I : Inv P E ops S B D β a w) {i : Nat} (hr : ReadyD ops.toList D i) (hi : i < ops.size) (h4 : (clsL ops.toList)[i]? = some 4) (hl : isLook ops[i].op = false) (hll : lenS P ops[i].op = false) (x : Nat) : Settled ops S D i x := by
  intro j hj hw
  by_cases hij : i = j
  · subst hij; exact ⟨fun h => absurd h hr.2.1, fun h => by omega⟩
  · refine ord_settle F I hr hj hij ?_
    rcases wr_cls hj hw with ⟨h5, _⟩ | ⟨_, h3⟩
    · rw [ordB_comm]
      have h2 : 2 ≤ clsOf ops[i].op := by
        rcases clsL_of hi h4 with ⟨h, _⟩ | ⟨h, _⟩
        · omega
        · cases h
      rcases F.drawn.five j (by simpa using hj) h5 i (by simpa using hi) (fun h => hij h.symm) (by simpa using h2) with h | ⟨h, _⟩
      · exact h
      · simp only [Array.getElem_toList] at h
        rw [h] at hl; cases hl
    · exact F.drawn.four i j (lenAt_of hi hll) h4 (cls_of_three hj h3)

theorem settled_foot (F : Facts P G rec E ops S B) (I : Inv P E ops S B D β a w) {i : Nat} (hr : ReadyD ops.toList D i) (hi : i < ops.size) (hc : 2 ≤ clsOf ops[i].op) {x : Nat} {s : Bool} (hf : foot ops.toList ops[i] (S i).tm = some (x, s)) : Settled ops S D i x := by
  intro j hj hw
  by_cases hij : i = j
  · subst hij; exact ⟨fun h => absurd h hr.2.1, fun h => by omega⟩
  · refine ord_settle F I hr hj hij ?_
    rcases wr_cls hj hw with ⟨h5, _⟩ | ⟨hfj, _⟩
    · rw [ordB_comm]
      rcases F.drawn.five j (by simpa using hj) h5 i (by simpa using hi) (fun h => hij h.symm) (by simpa using hc) with h | ⟨h, _⟩
      · exact h
      · simp only [Array.getElem_toList] at h
        exfalso
        unfold foot at hf
        split at hf
        · unfold footOf at hf
          split at hf
          · rename_i hq; rw [hq] at h; cases h
          · rename_i hq; rw [hq] at h; cases h
          · cases hf
        · cases hf
    · rcases Nat.lt_or_ge j i with h | h
      · rw [ordB_lt h]; exact F.apart i hi j h x s true hf hfj (by simp)
      · rw [ordB_comm, ordB_lt (by omega)]; exact F.apart j hj i (by omega) x true s hfj hf (by simp)

theorem mem_at (F : Facts P G rec E ops S B) (I : Inv P E ops S B D β a w) {i : Nat} (hi : i ≤ ops.size) {x b cp sh : Nat} (he : β x = .live b cp sh) (hs : Settled ops S D i x) (hx : x < (S i).V.size) :
    ∃ o o', (S i).V.heap.get x = some o ∧ w.heap[b]? = some o' ∧ ObjR P β cp sh o o' := by
  obtain ⟨k, h1, h2, h3, o, o', h4, h5, h6⟩ := I.mem x b cp sh he
  exact ⟨o, o', (chain F h1 hi h2 hs h3 hx).trans h4, h5, h6⟩
theorem dead_at (F : Facts P G rec E ops S B) (I : Inv P E ops S B D β a w) {i : Nat} (hi : i ≤ ops.size) {x : Nat} (he : β x = .dead) (hs : Settled ops S D i x) (hx : x < (S i).V.size) : (S i).V.heap.get x = some (.dfr true) := by
  obtain ⟨k, h1, h2, h3, h4⟩ := I.dead x he
  exact (chain F h1 hi h2 hs h3 hx).trans h4

theorem look_cut (F : Facts P G rec E ops S B) (I : Inv P E ops S B D β a w) {i : Nat} (hr : ReadyD ops.toList D i) (hi : i < ops.size) : ∀ x ∈ ops[i].op.operands, VR (cutR (S i).V.size β) (ev (S i).tm x) (a.eval x) := by
  intro x hx
  have hok := okOp_mem (okOps_mem F.ok ops[i] (by simp)) x hx
  refine ev_any (fun g hg => ?_) hok fun t ht => ?_
  · have := size_le F i 0 (by omega) (by omega)
    have := F.gsz
    have := F.gfl
    rw [cutR_lt (by omega)]; exact I.glob g hg
  · obtain ⟨β0, v0, h1, h2⟩ := F.tmps i (by omega) t
    have := look_op F I hr hi x hx
    subst ht
    exact VR.cut h1 this h2

/-- Whatever is not wanted. -/
theorem skip_ok (F : Facts P G rec E ops S B) (I : Inv P E ops S B D β a w) {i : Nat} (hr : ReadyD ops.toList D i) (hi : i < ops.size)
    (hput : (ops[i].dst = none ∧ (S (i + 1)).tm = (S i).tm) ∨ ∃ t, ops[i].dst = some t ∧ t < E.nt ∧ t < top ∧ (S (i + 1)).tm = (S i).tm.set 21 t undef)
    (hw : wantGo ops.toList ops[i] (S i).tm = false) (hV : (S (i + 1)).V.heap = (S i).V.heap) : Inv P E ops S B (fun j => D j ∨ j = i) β (a.put ops[i].dst undef) w := by
  have hft : foot ops.toList ops[i] (S i).tm = none := by unfold foot; rw [hw]
  refine inv_same F I hr hi (.refl _ _) .undef hput (fun x hx => ?_) (fun _ x _ _ => by rw [hV]) (fun x h => by rw [hft] at h; cases h)
  by_cases hWr : Wr ops S i x
  · rcases wr_cls hi hWr with ⟨h5, _⟩ | ⟨h, _⟩
    · rcases hWr with ⟨_, h1, h2⟩ | ⟨o, h1, h2⟩
      · exact .inr ⟨h2, settled_five F I hr hi h5 x, by rw [hV]⟩
      · rw [Array.getElem?_eq_getElem hi] at h1; cases h1; rw [hft] at h2; cases h2
    · rw [hft] at h; cases h
  · exact .inl hWr

/-- What is quiet. -/
theorem quiet_step (F : Facts P G rec E ops S B) (I : Inv P E ops S B D β a w) {i : Nat} (hr : ReadyD ops.toList D i) (hi : i < ops.size) (hc : clsOf ops[i].op = 0) {v : Value} {V V' : VW}
    (hput : (ops[i].dst = none ∧ (S (i + 1)).tm = (S i).tm) ∨ ∃ t, ops[i].dst = some t ∧ t < E.nt ∧ t < top ∧ (S (i + 1)).tm = (S i).tm.set 21 t v)
    (hq : quiet ops[i].op = true) (hp : plainGo P ops[i] (ev (S i).tm) V = .val v V') :
    ∃ v' w', RunsTo P (execOp a.eval ops[i]) w v' w' ∧ Inv P E ops S B (fun j => D j ∨ j = i) β (a.put ops[i].dst v') w' := by
  have hN : P.globals.size ≤ (S i).V.size := by
    have := size_le F i 0 (by omega) (by omega)
    have := F.gsz
    have := F.gfl
    omega
  have hcut : ∀ x b cp sh, cutR (S i).V.size β x = .live b cp sh → β x = .live b cp sh := fun x b cp sh h => by
    rcases Nat.lt_or_ge x (S i).V.size with h' | h'
    · rw [cutR_lt h'] at h; exact h
    · rw [cutR_ge h'] at h; cases h
  obtain ⟨v', w', h1, h2, h3⟩ := quiet_ok (β := cutR (S i).V.size β) (N := (S i).V.size) (w := w) (F.top i (by omega)) (fun g hg => by rw [cutR_lt (by omega)]; exact I.glob g hg) hN (fun x hx => cutR_ge hx)
    (fun x b cp sh h => by obtain ⟨k, _, _, _, o, o', _, h5, _⟩ := I.mem x b cp sh (hcut _ _ _ _ h); exact block_lt h5)
    (fun x y b cp sh cp' sh' h1 h2 => I.inj x y b cp sh cp' sh' (hcut _ _ _ _ h1) (hcut _ _ _ _ h2)) hq (look_cut F I hr hi) hp
  have hnw : ∀ x, ¬ Wr ops S i x := fun x h => by rcases wr_cls hi h with ⟨_, h⟩ | ⟨_, h⟩ <;> omega
  refine ⟨v', w', h2, inv_same F I hr hi h3 (h1.mono (cut_ext _ _)) hput (fun x _ => .inl (hnw x)) (fun h5 => ?_) (fun x h => ?_)⟩
  · rcases clsL_of hi h5 with ⟨_, h⟩ | ⟨_, h⟩
    · exact absurd rfl h
    · omega
  · have := foot_store h; omega
end
end Go.Vx
/-! Regions whose operations come in any order: a load, a store, a new variable, whatever else. -/
namespace Go.Vx
variable [Syms]
variable [Keeps]
open Go.RowKit

section
variable {P : Program} {G : VW} {rec : Rec} {E : Env} {ops : Array Oper} {S : Nat → St} {B : Base} {D : Nat → Prop} {β : Nat → Ren} {a : Act} {w : World}

theorem no_wr {i : Nat} (hi : i < ops.size) (h3 : clsOf ops[i].op ≠ 3) (h4 : clsOf ops[i].op ≠ 4) (x : Nat) : ¬ Wr ops S i x := fun h => by
  rcases wr_cls hi h with ⟨_, h⟩ | ⟨_, h⟩
  · exact h4 h
  · exact h3 h
theorem no_five {i : Nat} (hi : i < ops.size) (h4 : clsOf ops[i].op ≠ 4) : (clsL ops.toList)[i]? ≠ some 5 := fun h5 => by
  rcases clsL_of hi h5 with ⟨_, h⟩ | ⟨_, h⟩
  · exact h rfl
  · exact h4 h
theorem no_store {i : Nat} (hi : i < ops.size) (h3 : clsOf ops[i].op ≠ 3) (x : Nat) : foot ops.toList ops[i] (S i).tm ≠ some (x, true) := fun h => h3 (foot_store h)

theorem size_glob (F : Facts P G rec E ops S B) {i : Nat} (hi : i ≤ ops.size) : P.globals.size ≤ (S i).V.size := by
  have := size_le F i 0 (by omega) hi
  have := F.gsz
  have := F.gfl
  omega

/-- The block of a pointer, at its place in the order. -/
theorem block_at (F : Facts P G rec E ops S B) (I : Inv P E ops S B D β a w) {i : Nat} (hr : ReadyD ops.toList D i) (hi : i < ops.size) (hc : 2 ≤ clsOf ops[i].op) {x : Operand} (hx : x ∈ ops[i].op.operands) {y off : Nat} {s : Bool}
    (hev : ev (S i).tm x = .pointer (some ⟨y, off, none⟩)) (hf : foot ops.toList ops[i] (S i).tm = some (y, s)) (hg : (S i).V.heap.get y ≠ some (.dfr true)) :
    ∃ b cp sh o o', a.eval x = .pointer (some ⟨b, off + sh, none⟩) ∧ β y = .live b cp sh ∧ y < (S i).V.size ∧ Settled ops S D i y ∧ (S i).V.heap.get y = some o ∧ w.heap[b]? = some o' ∧ ObjR P β cp sh o o' := by
  have hv := look_op F I hr hi x hx
  have hv' := look_cut F I hr hi x hx
  rw [hev] at hv hv'
  have hlt := idx_ptr (N := (S i).V.size) (fun y hy => cutR_ge hy) hv'
  have hs := settled_foot F I hr hi hc hf
  generalize a.eval x = z at hv ⊢
  cases hv with
  | atom h => simp [atom] at h
  | ptr e =>
    obtain ⟨o, o', h1, h2, h3⟩ := mem_at F I (Nat.le_of_lt hi) e hs hlt
    exact ⟨_, _, _, o, o', rfl, e, hlt, hs, h1, h2, h3⟩
  | ptrD e => exact absurd (dead_at F I (Nat.le_of_lt hi) e hs hlt) hg

theorem load_step (F : Facts P G rec E ops S B) (I : Inv P E ops S B D β a w) {i : Nat} (hr : ReadyD ops.toList D i) (hi : i < ops.size) {t : TypeId} {ad : Operand} (hop : ops[i].op = .load t ad) {v : Value}
    (hput : (ops[i].dst = none ∧ (S (i + 1)).tm = (S i).tm) ∨ ∃ t, ops[i].dst = some t ∧ t < E.nt ∧ t < top ∧ (S (i + 1)).tm = (S i).tm.set 21 t v)
    (hw : wantGo ops.toList ops[i] (S i).tm = true) {V' : VW} (hp : plainGo P ops[i] (ev (S i).tm) (upV (S i).V) = .val v V') :
    ∃ v', RunsTo P (execOp a.eval ops[i]) w v' w ∧ Inv P E ops S B (fun j => D j ∨ j = i) β (a.put ops[i].dst v') w := by
  have hc : clsOf ops[i].op = 2 := by rw [hop]; rfl
  have hp' : loadO t ad P (ev (S i).tm) (upV (S i).V) = .val v V' := by
    unfold plainGo opK at hp; rw [hop] at hp; exact hp
  obtain ⟨hl, _⟩ := ofV_spec (show ofV _ _ = _ from hp')
  have hl2 := hl
  unfold loadGo at hl
  split at hl
  · rename_i bo hbo
    have hev := blockOf_spec hbo
    split at hl
    · rename_i c hrow
      obtain ⟨ob, hg, hne, hrel⟩ := rowOf_rel (P := P) hrow
      have hg : (S i).V.heap.get bo.1 = some ob := hg
      have hf : foot ops.toList ops[i] (S i).tm = some (bo.1, false) := by
        unfold foot; rw [hw, hop]; simp only [footOf, hbo]; rfl
      obtain ⟨b, cp, sh, o, o', h1, h2, h3, h4, h5, h6, h7⟩ := block_at F I hr hi (by omega) (x := ad) (by rw [hop]; simp [Op.operands]) hev hf (by rw [hg]; exact fun hh => hne (Option.some.inj hh))
      rw [hev] at hl2
      obtain ⟨v', g1, g2⟩ := load_core (V := upV (S i).V) h5 h6 h7 hl2
      refine ⟨v', .inl ?_, inv_same F I hr hi (.refl _ _) g2 hput (fun x _ => .inl (no_wr hi (by omega) (by omega) x)) (fun h5 => absurd h5 (no_five hi (by omega))) (fun x h => absurd h (no_store hi (by omega) x))⟩
      have : execOp a.eval ops[i] = (do pure (Next.value (← Instr.loadAt t (a.eval ad))) : Sem Next) := by
        unfold execOp; rw [hop]
      rw [this, h1]
      exact run_v g1
    · cases hl
  · cases hl

theorem store_step (F : Facts P G rec E ops S B) (I : Inv P E ops S B D β a w) {i : Nat} (hr : ReadyD ops.toList D i) (hi : i < ops.size) (hc : clsOf ops[i].op = 3) {v : Value}
    (hput : (ops[i].dst = none ∧ (S (i + 1)).tm = (S i).tm) ∨ ∃ t, ops[i].dst = some t ∧ t < E.nt ∧ t < top ∧ (S (i + 1)).tm = (S i).tm.set 21 t v)
    (hw : wantGo ops.toList ops[i] (S i).tm = true) {V' : VW} (hp : opGo rec P E ops[i] (S i) (S i).V = .val v V') (hV : (S (i + 1)).V.heap = V'.heap) :
    ∃ v' w', RunsTo P (execOp a.eval ops[i]) w v' w' ∧ Inv P E ops S B (fun j => D j ∨ j = i) β (a.put ops[i].dst v') w' := by
  obtain ⟨t, ad, xv, hop⟩ := clsOf_three hc
  obtain ⟨y, off, l, ob, c, e, hev, hf, hg, hne, hrel, hfl, hle, rfl, rfl, rfl, hsz, hone⟩ := store_foot hop hw hp
  obtain ⟨b, cp, sh, o, o', h1, h2, h3, h4, h5, h6, h7⟩ := block_at F I hr hi (by omega) (x := ad) (by rw [hop]; simp [Op.operands]) hev hf (by rw [hg]; exact fun hh => hne (Option.some.inj hh))
  rw [hg] at h5
  cases h5
  replace h7 := hrel h7
  have hxv := look_op F I hr hi xv (by rw [hop]; simp [Op.operands])
  obtain ⟨o2, g1, g2⟩ := store_core h6 h7 hxv hle hsz hone
  have hyt : y < top := Nat.lt_of_lt_of_le h3 (F.top i (Nat.le_of_lt hi))
  have hfl0 : (S 0).V.floor ≤ y := by rw [← F.floor i (Nat.le_of_lt hi)]; exact hfl
  have hnw : ∀ x, x ≠ y → ¬ Wr ops S i x := fun x hx h => by
    rcases wr_cls hi h with ⟨_, h⟩ | ⟨h, _⟩
    · omega
    · rw [hf] at h; cases h; exact hx rfl
  refine ⟨undef, w.putObj b o2, .inr ⟨rfl, ?_⟩, inv_step F I hr hi (.refl _) .undef hput (fun _ _ => rfl) (fun _ h => .inl h) (fun x b' cp' sh' he => ?_) (fun x he => ?_) I.inj I.own
    (Below.putObj I.base (I.own _ _ _ _ h2 hfl0).1 _) (fun b' hb' => ?_) (fun h5 => absurd h5 (no_five hi (by omega))) (fun x h => ?_)⟩
  · have : execOp a.eval ops[i] = (do Instr.storeAt t (a.eval ad) (a.eval xv); pure Next.skip : Sem Next) := by
      unfold execOp; rw [hop]
    rw [this, h1]
    exact run_u g1
  · by_cases hx : x = y
    · subst hx
      rw [h2] at he; cases he
      exact ⟨i + 1, hi, settled_succ hr.2.1 h4, Nat.lt_of_lt_of_le h3 (F.size i hi), _, o2, by rw [hV, VW.get_put hyt, if_pos rfl], heap_put_same h6, g2⟩
    · obtain ⟨k, k1, k2, k3, p, p', k4, k5, k6⟩ := I.mem x b' cp' sh' he
      refine ⟨k, k1, settled_same k2 (hnw x hx), k3, p, p', k4, ?_, k6⟩
      rw [World.putObj_heap_other]; · exact k5
      intro hb; subst hb; exact hx (I.inj _ _ _ _ _ _ _ he h2)
  · have hx : x ≠ y := fun hh => by subst hh; rw [h2] at he; cases he
    obtain ⟨k, k1, k2, k3, k4⟩ := I.dead x he
    exact ⟨k, k1, settled_same k2 (hnw x hx), k3, k4⟩
  · obtain ⟨k1, k2⟩ := I.kept b' hb'
    have hne : b' ≠ b := fun hh => by subst hh; exact (I.own _ _ _ _ h2 hfl0).2 hb'
    exact ⟨by simpa using k1, by rw [World.putObj_heap_other hne]; exact k2⟩
  · rw [hf] at h; cases h; rw [h2]; nofun

/-- What the order makes later is not there yet. -/
theorem new_fresh (F : Facts P G rec E ops S B) (I : Inv P E ops S B D β a w) {i : Nat} (hDi : ¬ D i) (hi : i < ops.size) {x : Nat} (h1 : (S i).V.size ≤ x) (h2 : x < (S (i + 1)).V.size) : β x = .fresh := by
  cases hb : β x with
  | fresh => rfl
  | _ =>
    rcases I.vis x (by rw [hb]; nofun) with h | ⟨j, hD, hj, h3, h4⟩
    · have := size_le F i 0 (by omega) (by omega); omega
    · rcases Nat.lt_trichotomy j i with h | h | h
      · have := size_le F i (j + 1) (by omega) (by omega); omega
      · subst h; exact absurd hD hDi
      · have := size_le F j (i + 1) (by omega) (by omega); omega

theorem ev_bd (F : Facts P G rec E ops S B) {j : Nat} (hj : j < ops.size) {x : Operand} (hx : x ∈ ops[j].op.operands) : ∃ β0 v0, (∀ y, (S j).V.size ≤ y → β0 y = .fresh) ∧ VR β0 (ev (S j).tm x) v0 := by
  have hok := okOp_mem (okOps_mem F.ok ops[j] (by simp)) x hx
  cases x with
  | tmp t => exact F.tmps j (Nat.le_of_lt hj) t
  | const v => exact ⟨fun _ => .fresh, v, fun _ _ => rfl, VR.flat hok⟩
  | global g =>
    have hg : g < P.globals.size := blt_lt hok
    have := size_glob F (Nat.le_of_lt hj)
    exact ⟨cutR (S j).V.size fun y => .live y 0 0, _, fun y hy => cutR_ge hy, VR.ptr (o := 0) (by rw [cutR_lt (by omega)])⟩
  | func f => exact ⟨fun _ => .fresh, _, fun _ _ => rfl, .atom rfl⟩

theorem foot_lt (F : Facts P G rec E ops S B) {j : Nat} (hj : j < ops.size) {x : Nat} {s : Bool} (h : foot ops.toList ops[j] (S j).tm = some (x, s)) : x < (S j).V.size := by
  have key : ∀ ad, ad ∈ ops[j].op.operands → ∀ s', (blockOf (ev (S j).tm ad)).map (fun bo => (bo.1, s')) = some (x, s) → x < (S j).V.size := by
    intro ad hm s' hb
    cases hbo : blockOf (ev (S j).tm ad) with
    | none => rw [hbo] at hb; cases hb
    | some bo =>
      rw [hbo] at hb
      cases hb
      obtain ⟨β0, v0, h1, h2⟩ := ev_bd F hj hm
      rw [blockOf_spec hbo] at h2
      exact idx_ptr h1 h2
  unfold foot at h
  split at h
  · unfold footOf at h
    split at h
    · rename_i t ad hq; exact key ad (by rw [hq]; simp [Op.operands]) false h
    · rename_i t ad xv hq; exact key ad (by rw [hq]; simp [Op.operands]) true h
    · cases h
  · cases h

theorem wr_later (F : Facts P G rec E ops S B) {i j x : Nat} (hj : j < ops.size) (hx : (S i).V.size ≤ x) (hi : i < ops.size) (h : Wr ops S j x) : i < j := by
  rcases Nat.lt_or_ge i j with h' | h'
  · exact h'
  · have hs := size_le F i j h' (by omega)
    rcases h with ⟨_, _, h⟩ | ⟨o, h1, h2⟩
    · omega
    · rw [Array.getElem?_eq_getElem hj] at h1; cases h1
      have := foot_lt F hj h2; omega
end
end Go.Vx
/-! Regions whose operations come in any order: new variables, whatever else. -/
namespace Go.Vx
variable [Syms]
variable [Keeps]
open Go.RowKit

section
variable {P : Program} {G : VW} {rec : Rec} {E : Env} {ops : Array Oper} {S : Nat → St} {B : Base} {D : Nat → Prop} {β : Nat → Ren} {a : Act} {w : World}

theorem last_five (D : Nat → Prop) (l : List Nat) (i : Nat) : ∀ n, i + 1 ≤ n → ∃ k, i + 1 ≤ k ∧ k ≤ n ∧ (k = i + 1 ∨ ∃ m, k = m + 1 ∧ i < m ∧ D m ∧ l[m]? = some 5) ∧ ∀ j, k ≤ j → j < n → D j → l[j]? ≠ some 5 := by
  intro n
  induction n with
  | zero => intro h; omega
  | succ n ih =>
    intro h
    rcases Nat.lt_or_ge i n with h' | h'
    · by_cases hn : D n ∧ l[n]? = some 5
      · exact ⟨n + 1, by omega, Nat.le_refl _, .inr ⟨n, rfl, h', hn⟩, fun j h1 h2 => by omega⟩
      · obtain ⟨k, h1, h2, h3, h4⟩ := ih h'
        refine ⟨k, h1, by omega, h3, fun j g1 g2 hD h5 => ?_⟩
        rcases Nat.lt_or_ge j n with g | g
        · exact h4 j g1 g hD h5
        · have : j = n := by omega
          subst this; exact hn ⟨hD, h5⟩
    · exact ⟨i + 1, by omega, h, .inl rfl, fun j h1 h2 => by omega⟩

theorem alloc_spec {o : Oper} (hc : clsOf o.op = 1) {e ρ : Rho} {V V' : VW} {v : Value} (hρ : ∀ x ∈ o.op.operands, VR β (e x) (ρ x)) (hp : plainGo P o e V = .val v V') :
    ∃ c ty c', V.size < top ∧ v = .pointer (some ⟨V.size, 0, none⟩) ∧ V' = V.push (.cells c ty false) ∧ VRs β c c' ∧ RunsTo P (execOp ρ o) w (.pointer (some ⟨w.heap.size, 0, none⟩)) (w.alloc (.cells ⟨c'⟩ ty (0, 0))) := by
  obtain ⟨dst, op, type, pos, after, guard⟩ := o
  cases op <;> first | (simp [clsOf, quiet] at hc; done) | skip
  case alloc t =>
    change allocO t P e V = _ at hp
    unfold allocO at hp
    split at hp
    · rename_i z hz
      obtain ⟨_, _, _, _, _, hat⟩ := zeroL_spec hz
      obtain ⟨h1, h2, h3⟩ := newGo_spec hp
      exact ⟨z, t, z, h1, h2, h3, VRs.atoms hat, .inl (run_v (run_alloc hz))⟩
    · cases hp
  case box t x =>
    change boxO t x P e V = _ at hp
    have hx := hρ x (by simp [Op.operands])
    obtain ⟨h1, h2, h3⟩ := newGo_spec hp
    exact ⟨cellsL (e x), t, cellsL (ρ x), h1, h2, h3, hx.cellsL, .inl (run_v (by
      simp only [Instr.box, newVar, newRow, Sem.run_bind, run_newObj_alloc, Result.andThen_ok, Sem.run_pure, cells_eq]))⟩

theorem alloc_step (F : Facts P G rec E ops S B) (I : Inv P E ops S B D β a w) {i : Nat} (hr : ReadyD ops.toList D i) (hi : i < ops.size) (hc : clsOf ops[i].op = 1) {v : Value}
    (hput : (ops[i].dst = none ∧ (S (i + 1)).tm = (S i).tm) ∨ ∃ t, ops[i].dst = some t ∧ t < E.nt ∧ t < top ∧ (S (i + 1)).tm = (S i).tm.set 21 t v)
    {V' : VW} (hp : plainGo P ops[i] (ev (S i).tm) (upV (S i).V) = .val v V') (hV : (S (i + 1)).V.heap = V'.heap) (hVs : (S (i + 1)).V.size = V'.size) :
    ∃ β' v' w', Ext β β' ∧ RunsTo P (execOp a.eval ops[i]) w v' w' ∧ Inv P E ops S B (fun j => D j ∨ j = i) β' (a.put ops[i].dst v') w' := by
  obtain ⟨c, ty, c', h1, rfl, rfl, h4, h5⟩ := alloc_spec (w := w) hc (look_op F I hr hi) hp
  have h1 : (S i).V.size < top := h1
  have hN1 : (S (i + 1)).V.size = (S i).V.size + 1 := hVs
  obtain ⟨N, hN⟩ : ∃ N, (S i).V.size = N := ⟨_, rfl⟩
  have hget : ∀ x, (S (i + 1)).V.heap.get x = if x = N then some (.cells c ty false) else (S i).V.heap.get x := fun x => by
    rw [hV, ← hN]; exact VW.get_push (V := upV (S i).V) h1 _ x
  have hf : β N = .fresh := new_fresh F I hr.2.1 hi (by omega) (by omega)
  have hx := Ext.fresh hf (.live w.heap.size 0 0)
  have hnw : ∀ x, ¬ Wr ops S i x := no_wr hi (by omega) (by omega)
  have hfN : (S 0).V.floor ≤ N := by
    have := size_le F i 0 (by omega) (by omega)
    have := F.gsz
    omega
  have hnew : ∃ k, k ≤ ops.size ∧ Settled ops S (fun j => D j ∨ j = i) k N ∧ N < (S k).V.size ∧ (S k).V.heap.get N = some (.cells c ty false) := by
    obtain ⟨k, k1, k2, k3, k4⟩ := last_five D (clsL ops.toList) i ops.size hi
    have hDj : ∀ j, j < ops.size → Wr ops S j N → D j → (clsL ops.toList)[j]? = some 5 := fun j hj hw hD => by
      rcases wr_cls hj hw with ⟨h, _⟩ | ⟨h, _⟩
      · exact h
      · exact absurd hf (I.wrd j hD _ N (Array.getElem?_eq_getElem hj) h)
    have hback : ∀ j, j < ops.size → i < j → j < k → Wr ops S j N → D j := by
      intro j hj hij hjk hw
      rcases k3 with h | ⟨m, rfl, him, hDm, h5⟩
      · omega
      · by_cases hjm : j = m
        · subst hjm; exact hDm
        · have hms : m < ops.size := by omega
          have h2 : 2 ≤ clsOf ops[j].op := by rcases wr_cls hj hw with ⟨_, h⟩ | ⟨_, h⟩ <;> omega
          have hord : ordB (ancsL ops.toList) m j = true := by
            rcases F.drawn.five m (by simpa using hms) h5 j (by simpa using hj) (fun hh => hjm hh.symm) (by simpa using h2) with h | ⟨h, _⟩
            · exact h
            · have := wr_nolook F hj hw
              simp only [Array.getElem_toList] at h
              rw [h] at this; cases this
          rw [ordB_lt (by omega)] at hord
          exact anc_in F.drawn.ord I.closed (m + 1) m (by omega) (by simpa using hms) j hord (I.closed m (by simpa using hms) hDm)
    refine ⟨k, k2, fun j hj hw => ?_, ?_, ?_⟩
    · have hij := wr_later F hj (by omega : (S i).V.size ≤ N) hi hw
      constructor
      · rintro (hD | rfl)
        · rcases Nat.lt_or_ge j k with h | h
          · exact h
          · exact absurd (hDj j hj hw hD) (k4 j h hj hD)
        · omega
      · intro hjk
        exact .inl (hback j hj hij hjk hw)
    · have := size_le F k (i + 1) k1 k2; omega
    · rw [chain_le F (x := N) (k := i + 1) (by omega) k k1 k2 fun j g1 g2 => ?_, hget, if_pos rfl]
      have hj : j < ops.size := by omega
      by_cases hw : Wr ops S j N
      · have hD := hback j hj (by omega) g2 hw
        have := size_le F j (i + 1) g1 (by omega)
        exact .inr (I.frs j hD (hDj j hj hw hD) N (by omega) hf)
      · exact .inl hw
  have hvr : VR (upd β N (.live w.heap.size 0 0)) (.pointer (some ⟨(upV (S i).V).size, 0, none⟩)) (.pointer (some ⟨w.heap.size, 0, none⟩)) :=
    VR.ptr (o := 0) (cp := 0) (sh := 0) (by show upd β N _ (S i).V.size = _; rw [hN]; exact upd_same _ _ _)
  refine ⟨upd β N (.live w.heap.size 0 0), _, _, hx, h5, inv_step F I hr hi hx hvr hput (fun x hxl => upd_ne _ _ (by omega)) (fun x hxf => ?_) (fun x b cp sh he => ?_) (fun x he => ?_) ?_ ?_
    (I.base.alloc I.base.size _) (fun b hb => ?_) (fun h5 => absurd h5 (no_five hi (by omega))) (fun x h => absurd h (no_store hi (by omega) x))⟩
  · by_cases hxN : x = N
    · exact .inr (by omega)
    · rw [upd_ne _ _ hxN] at hxf; exact .inl hxf
  · by_cases hxN : x = N
    · subst hxN
      rw [upd_same] at he; cases he
      obtain ⟨k, k1, k2, k3, k4⟩ := hnew
      exact ⟨k, k1, k2, k3, _, _, k4, World.alloc_heap_new w _, (ObjR.whole h4 (by simp)).mono hx⟩
    · rw [upd_ne _ _ hxN] at he
      obtain ⟨k, k1, k2, k3, p, p', k4, k5, k6⟩ := I.mem x b cp sh he
      exact ⟨k, k1, settled_same k2 (hnw x), k3, p, p', k4, by rw [Below.heap_alloc _ _ _ (block_lt k5)]; exact k5, k6.mono hx⟩
  · by_cases hxN : x = N
    · subst hxN; rw [upd_same] at he; cases he
    · rw [upd_ne _ _ hxN] at he
      obtain ⟨k, k1, k2, k3, k4⟩ := I.dead x he
      exact ⟨k, k1, settled_same k2 (hnw x), k3, k4⟩
  · intro x y b cp1 sh1 cp2 sh2 e1 e2
    have old : ∀ y cp sh, β y ≠ .live w.heap.size cp sh := fun y cp sh he => by
      obtain ⟨_, _, _, _, _, p', _, hb, _⟩ := I.mem y _ _ _ he
      have := block_lt hb; omega
    by_cases hxN : x = N
    · by_cases hyN : y = N
      · omega
      · subst hxN; rw [upd_same] at e1; rw [upd_ne _ _ hyN] at e2; cases e1; exact absurd e2 (old _ _ _)
    · rw [upd_ne _ _ hxN] at e1
      by_cases hyN : y = N
      · subst hyN; rw [upd_same] at e2; cases e2; exact absurd e1 (old _ _ _)
      · rw [upd_ne _ _ hyN] at e2; exact I.inj _ _ _ _ _ _ _ e1 e2
  · intro x b cp sh he hxl
    by_cases hxN : x = N
    · subst hxN; rw [upd_same] at he; cases he
      exact ⟨I.base.size, fun hp => absurd (I.kept _ hp).1 (Nat.lt_irrefl _)⟩
    · rw [upd_ne _ _ hxN] at he; exact I.own _ _ _ _ he hxl
  · obtain ⟨k1, k2⟩ := I.kept b hb
    exact ⟨by simp; omega, by rw [Below.heap_alloc _ _ _ k1]; exact k2⟩

/-- Where a look into a map stands, if what is ordered to all others has come before it. -/
theorem look_place (F : Facts P G rec E ops S B) (I : Inv P E ops S B D β a w) {i : Nat} (hr : ReadyD ops.toList D i) (hi : i < ops.size) (h4 : (clsL ops.toList)[i]? = some 4) (hl : isLook ops[i].op = true) :
    ∃ k, i + 1 ≤ k ∧ k ≤ ops.size ∧ (∀ x, Settled ops S D k x) ∧ (k = i + 1 ∨ ∃ m, k = m + 1 ∧ i < m ∧ m < ops.size ∧ (clsL ops.toList)[m]? = some 5 ∧ bit (ancsL ops.toList) m i = false) := by
  obtain ⟨k, k1, k2, k3, k4⟩ := last_five D (clsL ops.toList) i ops.size hi
  have hc4 : clsOf ops[i].op = 4 := by
    rcases clsL_of hi h4 with ⟨h, _⟩ | ⟨h, _⟩
    · omega
    · cases h
  have hord3 : ∀ j, j < ops.size → (clsL ops.toList)[j]? = some 3 → (D j ↔ j < i) := fun j hj h3 => by
    refine ord_settle F I hr hj (fun hh => ?_) (F.drawn.four i j (lenAt_of hi (by obtain ⟨t, m, k, ok, hh⟩ := (show ∃ t m k ok, ops[i].op = .lookup t m k ok by cases hq : ops[i].op <;> rw [hq] at hl <;> simp [isLook] at hl; exact ⟨_, _, _, _, rfl⟩); rw [hh]; rfl)) h4 h3)
    subst hh; rw [h4] at h3; cases h3
  have hfive : ∀ j, j < ops.size → (clsL ops.toList)[j]? = some 5 → j < i → D j := fun j hj h5 hji => by
    rcases F.drawn.five j (by simpa using hj) h5 i (by simpa using hi) (by omega) (by simp only [Array.getElem_toList]; omega) with h | ⟨_, h⟩
    · rw [ordB_comm] at h
      exact (ord_settle F I hr hj (by omega) h).2 hji
    · omega
  refine ⟨k, k1, k2, fun x j hj hw => ?_, ?_⟩
  · have hwc := wr_cls hj hw
    have hnl := wr_nolook F hj hw
    have hji : j ≠ i := fun hh => by subst hh; rw [hl] at hnl; cases hnl
    -- what comes before the last that has run, has run
    have hdown : j < k → i < j → D j := by
      intro hjk hij
      rcases k3 with h | ⟨m, rfl, him, hDm, h5⟩
      · omega
      · by_cases hjm : j = m
        · subst hjm; exact hDm
        · have hms : m < ops.size := by omega
          have h2 : 2 ≤ clsOf ops[j].op := by rcases hwc with ⟨_, h⟩ | ⟨_, h⟩ <;> omega
          rcases F.drawn.five m (by simpa using hms) h5 j (by simpa using hj) (fun hh => hjm hh.symm) (by simpa using h2) with h | ⟨h, _⟩
          · rw [ordB_lt (by omega)] at h
            exact anc_in F.drawn.ord I.closed (m + 1) m (by omega) (by simpa using hms) j h (I.closed m (by simpa using hms) hDm)
          · simp only [Array.getElem_toList] at h
            rw [h] at hnl; cases hnl
    rcases hwc with ⟨h5, _⟩ | ⟨_, h3⟩
    · constructor
      · intro hD
        rcases Nat.lt_or_ge j k with h | h
        · exact h
        · exact absurd h5 (k4 j h hj hD)
      · intro hjk
        rcases Nat.lt_or_ge j i with h | h
        · exact hfive j hj h5 h
        · exact hdown hjk (by omega)
    · have h3' := cls_of_three hj h3
      constructor
      · intro hD
        have := (hord3 j hj h3').1 hD
        omega
      · intro hjk
        rcases Nat.lt_or_ge j i with h | h
        · exact (hord3 j hj h3').2 h
        · exact hdown hjk (by omega)
  · rcases k3 with h | ⟨m, rfl, him, hDm, h5⟩
    · exact .inl h
    · refine .inr ⟨m, rfl, him, by omega, h5, ?_⟩
      cases hb : bit (ancsL ops.toList) m i with
      | false => rfl
      | true =>
        exfalso
        have := (ord_settle F I hr (by omega) (by omega) (show ordB (ancsL ops.toList) i m = true by rw [ordB_comm, ordB_lt him]; exact hb)).1 hDm
        omega

/-- The world, as it stands at a place of the order. -/
theorem wr_at (F : Facts P G rec E ops S B) (I : Inv P E ops S B D β a w) {k : Nat} (hk : k ≤ ops.size) (hall : ∀ x, Settled ops S D k x) :
    WR P ⟨w, upV (S k).V, cutR (S k).V.size β, w, fun _ => False⟩ (cutR (S k).V.size β) (upV (S k).V) w := by
  obtain ⟨N, hN⟩ : ∃ N, (S k).V.size = N := ⟨_, rfl⟩
  have hglN := size_glob F hk
  have hcut : ∀ x b cp sh, cutR N β x = .live b cp sh → x < N ∧ β x = .live b cp sh := fun x b cp sh h => by
    rcases Nat.lt_or_ge x N with h' | h'
    · rw [cutR_lt h'] at h; exact ⟨h', h⟩
    · rw [cutR_ge h'] at h; cases h
  have hcutD : ∀ x, cutR N β x = .dead → x < N ∧ β x = .dead := fun x h => by
    rcases Nat.lt_or_ge x N with h' | h'
    · rw [cutR_lt h'] at h; exact ⟨h', h⟩
    · rw [cutR_ge h'] at h; cases h
  rw [hN]
  refine ⟨fun g hg => by rw [cutR_lt (by omega)]; exact I.glob g hg, by show _ ≤ (S k).V.size; omega, Nat.le_refl _, F.top k hk, fun x hx => cutR_ge (by have : (S k).V.size ≤ x := hx; omega), fun x b cp sh he => ?_, fun x he => ?_,
    fun x y b cp sh cp' sh' h1 h2 => I.inj x y b cp sh cp' sh' (hcut _ _ _ _ h1).2 (hcut _ _ _ _ h2).2,
    fun x b cp sh he hx => absurd (hcut _ _ _ _ he).1 (by have : (S k).V.size ≤ x := hx; omega), fun _ _ => rfl, rfl, fun _ _ => rfl, Nat.le_refl _, .refl _ _, fun _ hq => hq.elim, fun _ _ hf => ⟨hf, rfl⟩, F.bd k hk⟩
  · obtain ⟨h1, h2⟩ := hcut _ _ _ _ he
    obtain ⟨o, o', g1, g2, g3⟩ := mem_at F I hk h2 (hall x) (by omega)
    have hbd := F.bd k hk x o g1
    rw [hN] at hbd
    exact ⟨o, o', g1, g2, g3.cut hbd⟩
  · obtain ⟨h1, h2⟩ := hcutD _ he
    exact dead_at F I hk h2 (hall x) (by omega)

theorem cut_up {n m : Nat} (h : n ≤ m) (β : Nat → Ren) : Ext (cutR n β) (cutR m β) := by
  refine ⟨fun j b cp sh e => ?_, fun j e => ?_⟩ <;> (rcases Nat.lt_or_ge j n with h' | h') <;> first | (rw [cutR_lt h'] at e; rw [cutR_lt (by omega)]; first | exact .inl e | exact e) | (rw [cutR_ge h'] at e; cases e)

theorem isLook_spec {o : Op} (h : isLook o = true) : ∃ t m k ok, o = .lookup t m k ok := by
  cases o <;> first | exact ⟨_, _, _, _, rfl⟩ | cases h

/-- A look into a map, behind what it is not ordered to. -/
theorem look_step (F : Facts P G rec E ops S B) (I : Inv P E ops S B D β a w) {i : Nat} (hr : ReadyD ops.toList D i) (hi : i < ops.size) (h4 : (clsL ops.toList)[i]? = some 4) (hl : isLook ops[i].op = true) {v : Value}
    (hput : (ops[i].dst = none ∧ (S (i + 1)).tm = (S i).tm) ∨ ∃ t, ops[i].dst = some t ∧ t < E.nt ∧ t < top ∧ (S (i + 1)).tm = (S i).tm.set 21 t v)
    (hw : wantGo ops.toList ops[i] (S i).tm = true) {V' : VW} (hp : plainGo P ops[i] (ev (S i).tm) (upV (S i).V) = .val v V') (hV : (S (i + 1)).V.heap = V'.heap) (hVs : (S (i + 1)).V.size = V'.size) :
    ∃ v', RunsTo P (execOp a.eval ops[i]) w v' w ∧ Inv P E ops S B (fun j => D j ∨ j = i) β (a.put ops[i].dst v') w := by
  obtain ⟨t, mo, ko, ok, hop⟩ := isLook_spec hl
  have hc4 : clsOf ops[i].op = 4 := by rw [hop]; rfl
  obtain ⟨k, k1, k2, hall, k3⟩ := look_place F I hr hi h4 hl
  have hW := wr_at F I k2 hall
  have hrun : ∀ V v V', plainGo P ops[i] (ev (S i).tm) V = .val v V' ↔ lookupO t mo ko ok P (ev (S i).tm) V = .val v V' := fun V v V' => by
    unfold plainGo opK; rw [hop]; rfl
  have hsame : ∀ V v V', lookupO t mo ko ok P (ev (S i).tm) V = .val v V' → V' = V := fun V v V' h => by
    unfold lookupO at h
    split at h
    · split at h
      · cases h
      · split at h
        · split at h
          · cases h; rfl
          · cases h; rfl
          · cases h
        · cases h
    · cases h
  have hpk : ∃ V2, lookupO t mo ko ok P (ev (S i).tm) (upV (S k).V) = .val v V2 := by
    rcases k3 with h | ⟨m, h, him, hm, h5, hb⟩
    · have hp0 := (hrun _ _ _).1 hp
      have e1 := hsame _ _ _ hp0
      refine ⟨V', ?_⟩
      have : upV (S k).V = upV (S i).V := by
        subst h
        unfold upV
        rw [hV, hVs, e1]
        rfl
      rw [this]; exact hp0
    · subst h
      rcases F.look i hi m him hm h5 hl hw with h | h
      · rw [hb] at h; cases h
      · unfold lkChk at h
        split at h
        · rename_i d hd
          unfold sameV at h
          split at h
          · rename_i u V2 hu
            have hv : tget (S (i + 1)).tm d = v := by
              rcases hput with ⟨hn, _⟩ | ⟨t', hd', _, htop, htm⟩
              · rw [hn] at hd; cases hd
              · rw [hd'] at hd; cases hd
                rw [htm, tget_set htop, if_pos rfl]
            have he := eqw_eq h
            rw [hv] at he
            subst he
            exact ⟨V2, (hrun _ _ _).1 hu⟩
          · cases h
        · cases h
  obtain ⟨V2, hpk⟩ := hpk
  have hρ := look_cut F I hr hi
  have hsz := size_le F k i (by omega) k2
  have hm := (hρ mo (by rw [hop]; simp [Op.operands])).mono (cut_up hsz β)
  have hk := (hρ ko (by rw [hop]; simp [Op.operands])).mono (cut_up hsz β)
  obtain ⟨v', g1, g2, _⟩ := lookup_ok hW hm hk hpk
  have hnw : ∀ x, ¬ Wr ops S i x := fun x h => by
    have := wr_nolook F hi h
    rw [hl] at this; cases this
  refine ⟨v', .inl ?_, inv_same F I hr hi (.refl _ _) (g2.mono (cut_ext _ _)) hput (fun x _ => .inl (hnw x)) (fun h5 => ?_) (fun x h => ?_)⟩
  · have : execOp a.eval ops[i] = (do pure (Next.value (← Instr.lookup t (a.eval mo) (a.eval ko) ok)) : Sem Next) := by
      unfold execOp; rw [hop]
    rw [this]
    exact run_v g1
  · have := F.drawn.nolook i (by simpa using hi) h5
    simp only [Array.getElem_toList] at this
    rw [hl] at this; cases this
  · have := foot_store h; omega

/-- Whatever stands in order to all that writes. -/
theorem whole_step (hG : Good P G rec) (F : Facts P G rec E ops S B) (I : Inv P E ops S B D β a w) {i : Nat} (hr : ReadyD ops.toList D i) (hi : i < ops.size) (hc : clsOf ops[i].op = 4)
    (hall : ∀ x, Settled ops S D i x) (hlater : ∀ j, j < ops.size → i < j → ∀ x, Wr ops S j x → (S i).V.size ≤ x → ¬ D j)
    {W0 : World} {V : VW} (hVh : V.heap = (S i).V.heap) (hVs : V.size = (S i).V.size) (hVf : (S 0).V.floor ≤ V.floor) (hVn : V.floor ≤ (S i).V.size)
    (hown : ∀ x b cp sh, x < (S i).V.size → β x = .live b cp sh → V.floor ≤ x → W0.heap.size ≤ b ∧ ¬ B.prot b) (hb0 : Below W0.heap.size W0 w) (hsz0 : B.w0.heap.size ≤ W0.heap.size) (hW0 : ∀ w1, Below W0.heap.size W0 w1 → Below B.w0.heap.size B.w0 w1)
    {s1 : St} (hgo : oneGo rec P E ops.toList ops[i] (S i) V = .fall .normal s1) (hs1 : (S (i + 1)).tm = s1.tm ∧ (S (i + 1)).V.heap = s1.V.heap ∧ (S (i + 1)).V.size = s1.V.size)
    {b : Frame} {rest : List Nat} {k : List Item} {cs : List Frame} :
    ∃ β' v' w', Ext β β' ∧ Inv P E ops S B (fun j => D j ∨ j = i) β' (a.put ops[i].dst v') w' ∧ Steps P (lone (b.atR a (.inRegion ops (i :: rest) :: k)) cs w) (lone (b.atR (a.put ops[i].dst v') (.inRegion ops rest :: k)) cs w') := by
  obtain ⟨N, hN⟩ : ∃ N, (S i).V.size = N := ⟨_, rfl⟩
  have hglN := size_glob F (Nat.le_of_lt hi)
  have hcut : ∀ x b cp sh, cutR N β x = .live b cp sh → x < N ∧ β x = .live b cp sh := fun x b cp sh h => by
    rcases Nat.lt_or_ge x N with h' | h'
    · rw [cutR_lt h'] at h; exact ⟨h', h⟩
    · rw [cutR_ge h'] at h; cases h
  have hcutD : ∀ x, cutR N β x = .dead → x < N ∧ β x = .dead := fun x h => by
    rcases Nat.lt_or_ge x N with h' | h'
    · rw [cutR_lt h'] at h; exact ⟨h', h⟩
    · rw [cutR_ge h'] at h; cases h
  let B' : Base := ⟨W0, V, cutR N β, w, fun q => B.prot q ∨ ∃ x cp sh, N ≤ x ∧ β x = .live q cp sh⟩
  have hW : WR P B' (cutR N β) V w := by
    refine ⟨fun g hg => by rw [cutR_lt (by omega)]; exact I.glob g hg, Nat.le_trans F.gfl hVf, by omega, by rw [hVs]; exact F.top i (Nat.le_of_lt hi), fun x hx => cutR_ge (by omega), fun x b cp sh he => ?_, fun x he => ?_, fun x y b cp sh cp' sh' h1 h2 => I.inj x y b cp sh cp' sh' (hcut _ _ _ _ h1).2 (hcut _ _ _ _ h2).2,
      fun x b cp sh he hx => ?_, fun _ _ => rfl, rfl, fun _ _ => rfl, Nat.le_refl _, hb0, fun q hq => ?_, fun _ _ hf => ⟨hf, rfl⟩, fun x o ho => ?_⟩
    · obtain ⟨h1, h2⟩ := hcut _ _ _ _ he
      obtain ⟨o, o', g1, g2, g3⟩ := mem_at F I (Nat.le_of_lt hi) h2 (hall x) (by omega)
      have hbd := F.bd i (Nat.le_of_lt hi) x o g1
      rw [hN] at hbd
      exact ⟨o, o', by rw [hVh]; exact g1, g2, g3.cut hbd⟩
    · obtain ⟨h1, h2⟩ := hcutD _ he
      rw [hVh]; exact dead_at F I (Nat.le_of_lt hi) h2 (hall x) (by omega)
    · obtain ⟨h1, h2⟩ := hcut _ _ _ _ he
      obtain ⟨g1, g2⟩ := hown x b cp sh (by omega) h2 hx
      refine ⟨g1, fun hp => ?_⟩
      rcases hp with hp | ⟨y, cp', sh', hy, hye⟩
      · exact g2 hp
      · have := I.inj _ _ _ _ _ _ _ h2 hye; omega
    · rcases hq with hq | ⟨y, cp', sh', hy, hye⟩
      · exact ⟨(I.kept q hq).1, rfl⟩
      · obtain ⟨_, _, _, _, _, p', _, hb, _⟩ := I.mem y _ _ _ hye
        exact ⟨block_lt hb, rfl⟩
    · rw [hVh] at ho; rw [hVs]; exact F.bd i (Nat.le_of_lt hi) x o ho
  have hB : HB P G B' := ⟨fun g hg => by
    show V.heap.get g = _
    have := F.gfl
    rw [hVh, F.keep0 i (Nat.le_of_lt hi) g (by omega), ← F.keep0 0 (Nat.zero_le _) g (by omega)]
    exact F.hb g hg, Keeps.keep _ _ F.ki (hW0 _ (.refl _ _))⟩
  have hρ := look_cut F I hr hi
  rw [hN] at hρ
  obtain ⟨v, V', hput, β1, v', w1, e1, e2, e3, e4⟩ := one_ok hG hgo hB hW (look_want F I hr hi) hρ (b := b) (rest := rest) (k := k) (cs := cs) (Array.getElem?_eq_getElem hi)
  obtain ⟨_, hV1, _, htm⟩ := put_ok hput
  obtain ⟨N1, hN1⟩ : ∃ n, V'.size = n := ⟨_, rfl⟩
  have hS1 : (S (i + 1)).V.size = N1 := by rw [hs1.2.2, hV1, hN1]
  have hSh : (S (i + 1)).V.heap = V'.heap := by rw [hs1.2.1, hV1]
  have hNN : N ≤ N1 := by have := F.size i hi; omega
  have hfl1 : V'.floor = V.floor := e2.flo
  have hlow1 : ∀ x, x < V.floor → β1 x = β x := fun x hx => by
    rw [e2.low x (by omega)]
    show cutR N β x = β x
    exact cutR_lt (by omega)
  have hnew : ∀ x, N ≤ x → x < N1 → β x = .fresh := fun x h1 h2 => new_fresh F I hr.2.1 hi (by omega) (by omega)
  obtain ⟨β', hβ'⟩ : ∃ β' : Nat → Ren, ∀ x, β' x = if x < N1 then β1 x else β x := ⟨_, fun _ => rfl⟩
  have hlt : ∀ x, x < N1 → β' x = β1 x := fun x h => by rw [hβ', if_pos h]
  have hge : ∀ x, N1 ≤ x → β' x = β x := fun x h => by rw [hβ', if_neg (by omega)]
  have hx : Ext β β' := by
    refine ⟨fun x b cp sh he => ?_, fun x he => ?_⟩ <;> rcases Nat.lt_or_ge x N1 with h | h
    · rw [hlt x h]
      rcases Nat.lt_or_ge x N with h' | h'
      · exact e1.1 x b cp sh (by rw [cutR_lt h']; exact he)
      · rw [hnew x h' h] at he; cases he
    · rw [hge x h]; exact .inl he
    · rw [hlt x h]
      rcases Nat.lt_or_ge x N with h' | h'
      · exact e1.2 x (by rw [cutR_lt h']; exact he)
      · rw [hnew x h' h] at he; cases he
    · rw [hge x h]; exact he
  have hx1 : Ext β1 β' := by
    have hout : ∀ x, N1 ≤ x → β1 x = .fresh := fun x h => e2.out x (by omega)
    refine ⟨fun x b cp sh he => ?_, fun x he => ?_⟩ <;> rcases Nat.lt_or_ge x N1 with h | h
    · rw [hlt x h]; exact .inl he
    · rw [hout x h] at he; cases he
    · rw [hlt x h]; exact he
    · rw [hout x h] at he; cases he
  have hnwg : ∀ x, N ≤ x → ¬ Wr ops S i x := fun x hxN h => by
    have := wr_later F hi (by omega : (S i).V.size ≤ x) hi h
    omega
  have hset : ∀ x, x < N1 → Settled ops S (fun j => D j ∨ j = i) (i + 1) x := fun x hx1 => by
    rcases Nat.lt_or_ge x N with h | h
    · exact settled_succ hr.2.1 (hall x)
    · intro j hj hw
      have hij := wr_later F hj (by omega : (S i).V.size ≤ x) hi hw
      constructor
      · rintro (hD | rfl)
        · exact absurd hD (hlater j hj hij x hw (by omega))
        · omega
      · intro h'; omega
  refine ⟨β', v', w1, hx, inv_step F I hr hi hx (e3.mono hx1) (by rw [hs1.1]; exact htm) (fun x hxl => ?_) (fun x hxf => ?_) (fun x b cp sh he => ?_) (fun x he => ?_) ?_ ?_ (hW0 _ e2.base) (fun q hq => ?_) (fun _ x hxs hf => ?_) (fun x h => absurd h (no_store hi (by omega) x)), e4⟩
  · have := F.gsz
    have := size_le F i 0 (by omega) (by omega)
    rw [hlt x (by omega)]; exact hlow1 x (by omega)
  · rcases Nat.lt_or_ge x N1 with h | h
    · rcases Nat.lt_or_ge x N with h' | h'
      · refine .inl fun hf => hxf ?_
        rw [hlt x h]
        exact (e2.frz x (by show x < V.size; omega) (by show cutR N β x = _; rw [cutR_lt h']; exact hf)).1
      · exact .inr (by omega)
    · rw [hge x h] at hxf; exact .inl hxf
  · rcases Nat.lt_or_ge x N1 with h | h
    · rw [hlt x h] at he
      obtain ⟨o, o', g1, g2, g3⟩ := e2.obj x b cp sh he
      exact ⟨i + 1, hi, hset x h, by omega, o, o', by rw [hSh]; exact g1, g2, g3.mono hx1⟩
    · rw [hge x h] at he
      obtain ⟨k, k1, k2, k3, p, p', k4, k5, k6⟩ := I.mem x b cp sh he
      refine ⟨k, k1, settled_same k2 (hnwg x (by omega)), k3, p, p', k4, ?_, k6.mono hx⟩
      rw [(e2.kept b (.inr ⟨x, cp, sh, by omega, he⟩)).2]; exact k5
  · rcases Nat.lt_or_ge x N1 with h | h
    · rw [hlt x h] at he
      exact ⟨i + 1, hi, hset x h, by omega, by rw [hSh]; exact e2.dead x he⟩
    · rw [hge x h] at he
      obtain ⟨k, k1, k2, k3, k4⟩ := I.dead x he
      exact ⟨k, k1, settled_same k2 (hnwg x (by omega)), k3, k4⟩
  · have mixed : ∀ x y b cp sh cp' sh', x < N1 → N1 ≤ y → β1 x = .live b cp sh → β y = .live b cp' sh' → x = y := by
      intro x y b cp sh cp' sh' h1 h2 g1 g2
      rcases Nat.lt_or_ge x V.floor with h | h
      · rw [hlow1 x h] at g1; exact I.inj _ _ _ _ _ _ _ g1 g2
      · exact absurd (.inr ⟨y, cp', sh', by omega, g2⟩) (e2.own x b cp sh g1 (by omega)).2
    intro x y b cp sh cp' sh' g1 g2
    rcases Nat.lt_or_ge x N1 with h | h <;> rcases Nat.lt_or_ge y N1 with h' | h'
    · rw [hlt x h] at g1; rw [hlt y h'] at g2; exact e2.inj _ _ _ _ _ _ _ g1 g2
    · rw [hlt x h] at g1; rw [hge y h'] at g2; exact mixed x y _ _ _ _ _ h h' g1 g2
    · rw [hge x h] at g1; rw [hlt y h'] at g2; exact (mixed y x _ _ _ _ _ h' h g2 g1).symm
    · rw [hge x h] at g1; rw [hge y h'] at g2; exact I.inj _ _ _ _ _ _ _ g1 g2
  · intro x b cp sh he hxl
    rcases Nat.lt_or_ge x N1 with h | h
    · rw [hlt x h] at he
      rcases Nat.lt_or_ge x V.floor with h' | h'
      · rw [hlow1 x h'] at he; exact I.own _ _ _ _ he hxl
      · obtain ⟨g1, g2⟩ := e2.own x b cp sh he (by omega)
        exact ⟨Nat.le_trans hsz0 g1, fun hp => g2 (.inl hp)⟩
    · rw [hge x h] at he; exact I.own _ _ _ _ he hxl
  · obtain ⟨k1, k2⟩ := e2.kept q (.inl hq)
    exact ⟨k1, k2.trans (I.kept q hq).2⟩
  · rw [hSh, ← hVh]
    have hfb := hx.back hf
    exact (e2.frz x (by show x < V.size; omega) (by show cutR N β x = _; rw [cutR_lt (by omega)]; exact hfb)).2
end
end Go.Vx
/-! Regions whose operations come in any order: the whole. -/
namespace Go.Vx
variable [Syms]
variable [Keeps]
open Go.RowKit

section
variable {P : Program} {G : VW} {rec : Rec} {E : Env} {ops : Array Oper} {S : Nat → St} {B : Base} {D : Nat → Prop} {β : Nat → Ren} {a : Act} {w : World}

theorem ord_later (F : Facts P G rec E ops S B) (I : Inv P E ops S B D β a w) {i j : Nat} (hr : ReadyD ops.toList D i) (hj : j < ops.size) (hij : i < j) (ho : ordB (ancsL ops.toList) i j = true) : ¬ D j := fun hD => by
  rw [ordB_comm, ordB_lt hij] at ho
  exact hr.2.1 (anc_in F.drawn.ord I.closed (j + 1) j (by omega) (by simpa using hj) i ho (I.closed j (by simpa using hj) hD))

theorem later_five (F : Facts P G rec E ops S B) (I : Inv P E ops S B D β a w) {i : Nat} (hr : ReadyD ops.toList D i) (h5 : (clsL ops.toList)[i]? = some 5) (hi : i < ops.size) :
    ∀ j, j < ops.size → i < j → ∀ x, Wr ops S j x → (S i).V.size ≤ x → ¬ D j := by
  intro j hj hij x hw _
  have h2 : 2 ≤ clsOf ops[j].op := by rcases wr_cls hj hw with ⟨_, h⟩ | ⟨_, h⟩ <;> omega
  rcases F.drawn.five i (by simpa using hi) h5 j (by simpa using hj) (by omega) (by simpa using h2) with h | ⟨_, h⟩
  · exact ord_later F I hr hj hij h
  · omega
theorem later_four (F : Facts P G rec E ops S B) (I : Inv P E ops S B D β a w) {i : Nat} (hr : ReadyD ops.toList D i) (h4 : (clsL ops.toList)[i]? = some 4) (hc : clsOf (ops.toList[i]'hr.1).op = 4) (hl : isLook (ops.toList[i]'hr.1).op = false) (hll : lenS P (ops.toList[i]'hr.1).op = false) :
    ∀ j, j < ops.size → i < j → ∀ x, Wr ops S j x → (S i).V.size ≤ x → ¬ D j := by
  intro j hj hij x hw _
  refine ord_later F I hr hj hij ?_
  rcases wr_cls hj hw with ⟨h5, _⟩ | ⟨_, h3⟩
  · rw [ordB_comm]
    rcases F.drawn.five j (by simpa using hj) h5 i hr.1 (by omega) (by omega) with h | ⟨h, _⟩
    · exact h
    · rw [h] at hl; cases hl
  · exact F.drawn.four i j (lenAt_of (by simpa using hr.1) (by simpa using hll)) h4 (cls_of_three hj h3)

theorem cls_le (o : Op) : clsOf o ≤ 4 := by cases o <;> simp [clsOf, quiet]
theorem cls_quiet {o : Op} (h : clsOf o = 0) : quiet o = true := by cases o <;> simp [clsOf, quiet] at h ⊢
theorem cls_load {o : Op} (h : clsOf o = 2) : ∃ t a, o = .load t a := by
  cases o <;> first | exact ⟨_, _, rfl⟩ | (simp [clsOf, quiet] at h; done)
theorem cls_call {o : Op} (h : clsOf o ≠ 4) : (∀ c, o ≠ .call c) ∧ ∀ c, o ≠ .defer c := by
  refine ⟨fun c hc => ?_, fun c hc => ?_⟩ <;> (rw [hc] at h; exact absurd rfl h)

/-- The length of a slice. -/
theorem len_any {o : Oper} (hl : lenS P o.op = true) {s : St} {V V' : VW} {v : Value} (hp : opGo rec P E o s V = .val v V') : V' = V ∧ ∃ c, o.op = .call c ∧ c.callee = .builtin .len ∧ ∀ V2, biGo .len rec P E o c (ev s.tm) V2 = .val v V2 := by
  obtain ⟨dst, op, type, pos, after, guard⟩ := o
  cases op with
  | call c =>
    obtain ⟨callee, args, argTypes⟩ := c
    change lenC P _ = true at hl
    unfold lenC at hl
    simp only at hl
    split at hl
    · rename_i x hx
      change biGo .len rec P E _ _ (ev s.tm) V = _ at hp
      have key : ∀ V2, biGo .len rec P E ⟨dst, .call ⟨.builtin .len, args, argTypes⟩, type, pos, after, guard⟩ ⟨.builtin .len, args, argTypes⟩ (ev s.tm) V2 = lenGo P ⟨dst, .call ⟨.builtin .len, args, argTypes⟩, type, pos, after, guard⟩ ⟨.builtin .len, args, argTypes⟩ x E (ev s.tm) V2 := fun V2 => by
        unfold biGo
        simp only [hx]
      rw [key] at hp
      have fin : V' = V ∧ ∀ V2, lenGo P ⟨dst, .call ⟨.builtin .len, args, argTypes⟩, type, pos, after, guard⟩ ⟨.builtin .len, args, argTypes⟩ x E (ev s.tm) V2 = .val v V2 := by
        unfold lenGo at hp ⊢
        simp only at hp ⊢
        split at hp
        · rename_i h1 h2
          cases hp
          exact ⟨rfl, fun V2 => rfl⟩
        · rename_i h1 h2
          rw [h2] at hl
          cases hl
        · split at hp
          · rename_i h1 h2 h3
            unfold ofV at hp
            split at hp
            · rename_i u hu
              cases hp
              refine ⟨rfl, fun V2 => ?_⟩
              rw [if_pos h3, hu]; rfl
            · cases hp
          · cases hp
      exact ⟨fin.1, _, rfl, rfl, fun V2 => by rw [key]; exact fin.2 V2⟩
    · cases hl
  | _ => cases hl

/-- What looks at no memory, a call of len among it. -/
theorem free_ok {β : Nat → Ren} {N : Nat} (hN : N ≤ top) (hgl : ∀ g, g < P.globals.size → β g = .live g 0 0) (hgN : P.globals.size ≤ N) (hout : ∀ x, N ≤ x → β x = .fresh)
    (hlive : ∀ x b cp sh, β x = .live b cp sh → b < w.heap.size) (hinj : ∀ i j b cp sh cp' sh', β i = .live b cp sh → β j = .live b cp' sh' → i = j)
    {o : Oper} {ρ : Rho} {v : Value} (hp : ∀ {B : Base} {V2 : VW}, WR P B β V2 w → Res P B β w (execOp ρ o) v V2) :
    ∃ v' w', VR β v v' ∧ RunsTo P (execOp ρ o) w v' w' ∧ Below w.heap.size w w' := by
  obtain ⟨t, ht⟩ := blank N hN
  have hW : WR P ⟨w, ⟨t, N, N⟩, β, w, fun _ => False⟩ β ⟨t, N, N⟩ w := by
    refine ⟨hgl, hgN, Nat.le_refl _, hN, hout, ?_, ?_, hinj, ?_, fun _ _ => rfl, rfl, fun _ _ => rfl, Nat.le_refl _, .refl _ _, fun _ hp => hp.elim, fun _ _ hf => ⟨hf, rfl⟩, ?_⟩
    · intro i b cp sh he
      have hi : i < N := by
        rcases Nat.lt_or_ge i N with h | h
        · exact h
        · rw [hout i h] at he; cases he
      have hb := hlive i b cp sh he
      exact ⟨_, _, (ht i).1 hi, Array.getElem?_eq_getElem hb, .dfrT⟩
    · intro i he
      have hi : i < N := by
        rcases Nat.lt_or_ge i N with h | h
        · exact h
        · rw [hout i h] at he; cases he
      exact (ht i).1 hi
    · intro i b cp sh he hi
      have : N ≤ i := hi
      rw [hout i this] at he; cases he
    · intro i o ho
      rcases Nat.lt_or_ge i N with h | h
      · have := (ht i).1 h
        have ho' : t.get i = some o := ho
        rw [this] at ho'; cases ho'; exact .dead P _
      · have := (ht i).2 h
        have ho' : t.get i = some o := ho
        rw [this] at ho'; cases ho'
  obtain ⟨β', v', w', h1, h2, h3, h4⟩ := hp hW
  have hlow : ∀ i, i < N → β' i = β i := h2.low
  have hout' : ∀ i, N ≤ i → β' i = .fresh := h2.out
  have heq : β' = β := by
    funext x
    rcases Nat.lt_or_ge x N with h | h
    · exact hlow x h
    · rw [hout' x h, hout x h]
  rw [heq] at h3
  exact ⟨v', w', h3, h4, h2.base⟩
theorem len_step (F : Facts P G rec E ops S B) (I : Inv P E ops S B D β a w) {i : Nat} (hr : ReadyD ops.toList D i) (hi : i < ops.size) (hl : lenS P ops[i].op = true) (hc : clsOf ops[i].op = 4) (hk : (clsL ops.toList)[i]? = some 4)
    (hone : oneDraw rec P E ops.toList ops[i] 4 (S i) = .fall .normal (S (i + 1)))
    {b : Frame} {rest : List Nat} {k : List Item} {cs : List Frame} :
    ∃ β' a' w', Ext β β' ∧ Inv P E ops S B (fun j => D j ∨ j = i) β' a' w' ∧ Steps P (lone (b.atR a (.inRegion ops (i :: rest) :: k)) cs w) (lone (b.atR a' (.inRegion ops rest :: k)) cs w') := by
  have hoi : ops[i]? = some ops[i] := Array.getElem?_eq_getElem hi
  obtain ⟨_, v, V', hV, _, hput, hcase⟩ := draw_put hone
  have hVh : (S (i + 1)).V.heap = V'.heap := by rw [hV]
  rcases hcase with ⟨hw, hop⟩ | ⟨hw, rfl, hV2⟩
  · have hwd : Region.wanted ops[i] (yielded ops a.tmps) = true := by rw [← look_want F I hr hi]; exact hw
    obtain ⟨hVV, c, hoc, hcc, hall⟩ := len_any hl hop
    have hnd : ∀ c, ops[i].op ≠ .defer c := fun c h => by rw [hoc] at h; cases h
    have hN : P.globals.size ≤ (S i).V.size := by
      have := size_le F i 0 (by omega) (by omega)
      have := F.gsz
      have := F.gfl
      omega
    have hcut : ∀ x b cp sh, cutR (S i).V.size β x = .live b cp sh → β x = .live b cp sh := fun x b cp sh h => by
      rcases Nat.lt_or_ge x (S i).V.size with h' | h'
      · rw [cutR_lt h'] at h; exact h
      · rw [cutR_ge h'] at h; cases h
    have hρ : ∀ x ∈ c.args, VR (cutR (S i).V.size β) (ev (S i).tm x) (a.eval x) := fun x hx => look_cut F I hr hi x (by rw [hoc]; simp [Op.operands, Call.operands, hcc]; exact hx)
    obtain ⟨v', w', h1, h2, h3⟩ := free_ok (β := cutR (S i).V.size β) (N := (S i).V.size) (w := w) (v := v) (ρ := a.eval) (o := ops[i]) (F.top i (by omega)) (fun g hg => by rw [cutR_lt (by omega)]; exact I.glob g hg) hN (fun x hx => cutR_ge hx)
      (fun x b cp sh h => by obtain ⟨k, _, _, _, o, o', _, h5, _⟩ := I.mem x b cp sh (hcut _ _ _ _ h); exact block_lt h5)
      (fun x y b cp sh cp' sh' h1 h2 => I.inj x y b cp sh cp' sh' (hcut _ _ _ _ h1) (hcut _ _ _ _ h2)) (fun hW => bi_ok hW hoc hcc hρ (hall _))
    have hnw : ∀ x, ¬ Wr ops S i x := fun x h => by
      rcases wr_cls hi h with ⟨h, _⟩ | ⟨_, h⟩
      · rw [hk] at h; cases h
      · omega
    refine ⟨β, _, w', .refl _, inv_same F I hr hi h3 (h1.mono (cut_ext _ _)) hput (fun x _ => .inl (hnw x)) (fun h5 => ?_) (fun x h => ?_), .one (stepR_value hoi hwd hnd h2)⟩
    · rw [hk] at h5; cases h5
    · have := foot_store h; omega
  · have hwd : Region.wanted ops[i] (yielded ops a.tmps) = false := by rw [← look_want F I hr hi]; exact hw
    refine ⟨β, _, w, .refl _, skip_ok F I hr hi hput hw ?_, .one ?_⟩
    · rw [hVh, hV2]; split <;> rfl
    · have h := stepR_op_skip (P := P) (b := b) (a := a) (k := k) (cs := cs) (w := w) (ops := ops) (i := i) (rest := rest) (by rw [hoi]; simpa using hwd)
      rw [hoi] at h; exact h

theorem step_any (hG : Good P G rec) (F : Facts P G rec E ops S B) (I : Inv P E ops S B D β a w) {i : Nat} (hr : ReadyD ops.toList D i) (hi : i < ops.size) {b : Frame} {rest : List Nat} {k : List Item} {cs : List Frame} :
    ∃ β' a' w', Ext β β' ∧ Inv P E ops S B (fun j => D j ∨ j = i) β' a' w' ∧ Steps P (lone (b.atR a (.inRegion ops (i :: rest) :: k)) cs w) (lone (b.atR a' (.inRegion ops rest :: k)) cs w') := by
  obtain ⟨kk, hk, hone⟩ := F.run i hi
  have hoi : ops[i]? = some ops[i] := Array.getElem?_eq_getElem hi
  have hflr := F.floor i (Nat.le_of_lt hi)
  have hfl : (S 0).V.floor ≤ (S i).V.size := by
    have := size_le F i 0 (by omega) (by omega)
    have := F.gsz
    omega
  by_cases hc4 : clsOf ops[i].op = 4
  · rcases clsL_of hi hk with ⟨h, h5⟩ | ⟨h, _⟩
    · rw [hc4] at h
      subst h
      cases hlook : isLook ops[i].op with
      | true =>
        obtain ⟨_, v, V', hV, _, hput, hcase⟩ := draw_put hone
        have hVh : (S (i + 1)).V.heap = V'.heap := by rw [hV]
        have hVs : (S (i + 1)).V.size = V'.size := by rw [hV]
        rcases hcase with ⟨hw, hop⟩ | ⟨hw, rfl, hV2⟩
        · have hwd : Region.wanted ops[i] (yielded ops a.tmps) = true := by rw [← look_want F I hr hi]; exact hw
          obtain ⟨t, mo, ko, ok, hlk⟩ := isLook_spec hlook
          have hnc : (∀ c, ops[i].op ≠ .call c) ∧ ∀ c, ops[i].op ≠ .defer c := ⟨fun c h => (by rw [hlk] at h; cases h), fun c h => (by rw [hlk] at h; cases h)⟩
          rw [opGo_plain hnc.1, if_neg (by omega)] at hop
          obtain ⟨v', g1, g2⟩ := look_step F I hr hi hk hlook hput hw hop hVh hVs
          exact ⟨_, _, _, .refl _, g2, .one (stepR_value hoi hwd hnc.2 g1)⟩
        · have hwd : Region.wanted ops[i] (yielded ops a.tmps) = false := by rw [← look_want F I hr hi]; exact hw
          refine ⟨β, _, w, .refl _, skip_ok F I hr hi hput hw ?_, .one ?_⟩
          · rw [hVh, hV2]; split <;> rfl
          · have h := stepR_op_skip (P := P) (b := b) (a := a) (k := k) (cs := cs) (w := w) (ops := ops) (i := i) (rest := rest) (by rw [hoi]; simpa using hwd)
            rw [hoi] at h; exact h
      | false =>
      rcases oneDraw_cases hone with ⟨hk35, _⟩ | ⟨_, t, hgo, hs1⟩
      · omega
      · cases hll : lenS P ops[i].op with
        | true => exact len_step F I hr hi hll hc4 hk hone (b := b) (rest := rest) (k := k) (cs := cs)
        | false =>
        obtain ⟨β', v', w', h1, h2, h3⟩ := whole_step hG F I hr hi hc4 (settled_four F I hr hi hk hlook hll) (later_four F I hr hk (by simpa using hc4) (by simpa using hlook) (by simpa using hll)) (W0 := w) (V := upV (S i).V) rfl rfl hfl (Nat.le_refl _)
          (fun x b cp sh hx _ hf => absurd hx (by have : (S i).V.size ≤ x := hf; omega)) (.refl _ _) I.base.size (fun w1 hb => I.base.trans (hb.mono I.base.size)) hgo (by rw [hs1]; exact ⟨rfl, rfl, rfl⟩) (b := b) (rest := rest) (k := k) (cs := cs)
        exact ⟨β', _, w', h1, h2, h3⟩
    · subst h
      rcases oneDraw_cases hone with ⟨_, hgo⟩ | ⟨hk35, _⟩
      · obtain ⟨β', v', w', h1, h2, h3⟩ := whole_step hG F I hr hi hc4 (settled_five F I hr hi hk) (later_five F I hr hk hi) (W0 := B.w0) (V := (S i).V) rfl rfl (by omega) (by omega)
          (fun x b cp sh _ he hf => I.own x b cp sh he (by omega)) I.base (Nat.le_refl _) (fun w1 hb => hb) hgo ⟨rfl, rfl, rfl⟩ (b := b) (rest := rest) (k := k) (cs := cs)
        exact ⟨β', _, w', h1, h2, h3⟩
      · omega
  · have hkc : kk = clsOf ops[i].op := by
      rcases clsL_of hi hk with ⟨h, _⟩ | ⟨_, h⟩
      · exact h
      · exact absurd h hc4
    obtain ⟨_, v, V', hV, _, hput, hcase⟩ := draw_put hone
    have hVh : (S (i + 1)).V.heap = V'.heap := by rw [hV]
    have hVs : (S (i + 1)).V.size = V'.size := by rw [hV]
    rcases hcase with ⟨hw, hop⟩ | ⟨hw, rfl, hV2⟩
    · have hwd : Region.wanted ops[i] (yielded ops a.tmps) = true := by rw [← look_want F I hr hi]; exact hw
      obtain ⟨hnc, hnd⟩ := cls_call hc4
      have hop2 := hop
      rw [opGo_plain hnc] at hop
      have hle := cls_le ops[i].op
      have done : ∀ {β' : Nat → Ren} {v' : Value} {w' : World}, Ext β β' → RunsTo P (execOp a.eval ops[i]) w v' w' → Inv P E ops S B (fun j => D j ∨ j = i) β' (a.put ops[i].dst v') w' →
          ∃ β' a' w', Ext β β' ∧ Inv P E ops S B (fun j => D j ∨ j = i) β' a' w' ∧ Steps P (lone (b.atR a (.inRegion ops (i :: rest) :: k)) cs w) (lone (b.atR a' (.inRegion ops rest :: k)) cs w') :=
        fun h1 h2 h3 => ⟨_, _, _, h1, h3, .one (stepR_value hoi hwd hnd h2)⟩
      by_cases h0 : clsOf ops[i].op = 0
      · obtain ⟨v', w', g1, g2⟩ := quiet_step F I hr hi h0 hput (cls_quiet h0) hop
        exact done (.refl _) g1 g2
      · by_cases h1 : clsOf ops[i].op = 1
        · rw [if_neg (by omega)] at hop
          obtain ⟨β', v', w', g0, g1, g2⟩ := alloc_step F I hr hi h1 hput hop hVh hVs
          exact done g0 g1 g2
        · by_cases h2 : clsOf ops[i].op = 2
          · rw [if_neg (by omega)] at hop
            obtain ⟨t, ad, hld⟩ := cls_load h2
            obtain ⟨v', g1, g2⟩ := load_step F I hr hi hld hput hw hop
            exact done (.refl _) g1 g2
          · have h3 : clsOf ops[i].op = 3 := by omega
            rw [if_pos (by omega)] at hop2
            obtain ⟨v', w', g1, g2⟩ := store_step F I hr hi h3 hput hw hop2 hVh
            exact done (.refl _) g1 g2
    · have hwd : Region.wanted ops[i] (yielded ops a.tmps) = false := by rw [← look_want F I hr hi]; exact hw
      refine ⟨β, _, w, .refl _, skip_ok F I hr hi hput hw ?_, .one ?_⟩
      · rw [hVh, hV2]; split <;> rfl
      · have h := stepR_op_skip (P := P) (b := b) (a := a) (k := k) (cs := cs) (w := w) (ops := ops) (i := i) (rest := rest) (by rw [hoi]; simpa using hwd)
        rw [hoi] at h; exact h

/-! ### All of them -/
def unl (f : Nat → Bool) : Nat → Nat
  | 0 => 0
  | n + 1 => unl f n + (if f n then 0 else 1)
theorem unl_le (f : Nat → Bool) : ∀ n, unl f n ≤ n
  | 0 => Nat.le_refl _
  | n + 1 => by have := unl_le f n; simp only [unl]; split <;> omega
theorem unl_zero {f : Nat → Bool} : ∀ n, unl f n = 0 → ∀ j, j < n → f j = true
  | n + 1, h, j, hj => by
    simp only [unl] at h
    rcases Nat.lt_or_ge j n with h' | h'
    · exact unl_zero n (by omega) j h'
    · have : j = n := by omega
      subst this
      split at h
      · assumption
      · omega
theorem unl_congr {f g : Nat → Bool} : ∀ n, (∀ j, j < n → f j = g j) → unl f n = unl g n
  | 0, _ => rfl
  | n + 1, h => by simp only [unl]; rw [unl_congr n fun j hj => h j (by omega), h n (by omega)]
theorem unl_set {f g : Nat → Bool} {i : Nat} (hfi : f i = false) (hgi : g i = true) (ho : ∀ j, j ≠ i → g j = f j) : ∀ n, i < n → unl g n + 1 = unl f n
  | n + 1, h => by
    simp only [unl]
    rcases Nat.lt_or_ge i n with h' | h'
    · have := unl_set hfi hgi ho n h'
      rw [ho n (by omega)]; omega
    · have : n = i := by omega
      subst this
      rw [hfi, hgi, unl_congr n fun j hj => ho j (by omega)]
      simp

theorem ready_mem {listed : Array Bool} {i : Nat} (h : i ∈ Region.ready .any ops listed) (hs : listed.size = ops.size) : i < ops.size ∧ ReadyD ops.toList (fun j => listed.getD j false = true) i := by
  simp only [Region.ready, List.mem_filter, List.mem_range, Bool.and_eq_true, Bool.not_eq_true'] at h
  obtain ⟨h1, h2, h3⟩ := h
  refine ⟨h1, by simpa using h1, fun hD => ?_, fun e he hb => ?_⟩
  · have hl : i < listed.size := by omega
    simp [Array.getD, hl] at h2 hD
    rw [h2] at hD; cases hD
  · rw [Array.getElem?_eq_getElem h1] at h3
    simp only [Option.map_some, Option.getD_some] at h3
    have := Array.all_eq_true_iff_forall_mem.1 h3 e (by simpa using he)
    rw [hb] at this
    simpa using this

theorem ready_none (hD : Drawn P ops.toList) {listed : Array Bool} (hs : listed.size = ops.size) (h : Region.ready .any ops listed = []) : ∀ n j, j < n → j < ops.size → listed.getD j false = true := by
  intro n
  induction n with
  | zero => intro j hj; omega
  | succ n ih =>
    intro j hjn hj
    cases hb : listed.getD j false with
    | true => rfl
    | false =>
      exfalso
      have hm : j ∈ Region.ready .any ops listed := by
        simp only [Region.ready, List.mem_filter, List.mem_range, Bool.and_eq_true, Bool.not_eq_true']
        refine ⟨hj, ?_, ?_⟩
        · have hl : j < listed.size := by omega
          simp [Array.getD, hl] at hb ⊢
          exact hb
        · rw [Array.getElem?_eq_getElem hj]
          simp only [Option.map_some, Option.getD_some]
          refine Array.all_eq_true_iff_forall_mem.2 fun e he => ?_
          cases hbd : Region.binds .any e with
          | false => rfl
          | true =>
            have hlt := hD.ord j (by simpa using hj) e (by simpa using he) hbd
            simpa using ih e.on (by omega) (by omega)
      rw [h] at hm; cases hm

theorem go_ok (hG : Good P G rec) (F : Facts P G rec E ops S B) {b : Frame} {k : List Item} {cs : List Frame} : ∀ (fuel t : Nat) (listed : Array Bool) (β : Nat → Ren) (a : Act) (w : World), listed.size = ops.size → unl (fun j => listed.getD j false) ops.size ≤ fuel →
    Inv P E ops S B (fun j => listed.getD j false = true) β a w →
    ∃ β' a' w' D', Ext β β' ∧ Inv P E ops S B D' β' a' w' ∧ (∀ j, j < ops.size → D' j) ∧ Steps P (lone (b.atR a (.inRegion ops (Region.linearise.go .any ops fuel t listed []) :: k)) cs w) (lone (b.atR a' (.inRegion ops [] :: k)) cs w') := by
  intro fuel
  induction fuel with
  | zero =>
    intro t listed β a w hs hf I
    refine ⟨β, a, w, _, .refl _, I, fun j hj => unl_zero (f := fun j => listed.getD j false) ops.size (by omega) j hj, ?_⟩
    simp only [Region.linearise.go, List.reverse_nil]
    exact .refl _ _
  | succ fuel ih =>
    intro t listed β a w hs hf I
    simp only [Region.linearise.go]
    change ∃ β' a' w' D', _ ∧ _ ∧ _ ∧ Steps P (lone (b.atR a (.inRegion ops (match (Region.ready .any ops listed)[t % (Region.ready .any ops listed).length]? with
      | some i => Region.linearise.go .any ops fuel (t / (Region.ready .any ops listed).length) (listed.setIfInBounds i true) [i]
      | none => [].reverse) :: k)) cs w) _
    cases hi : (Region.ready .any ops listed)[t % (Region.ready .any ops listed).length]? with
    | none =>
      have hnil : Region.ready .any ops listed = [] := by
        cases hr : Region.ready .any ops listed with
        | nil => rfl
        | cons x xs =>
          rw [hr] at hi
          have hlt : t % (x :: xs).length < (x :: xs).length := Nat.mod_lt _ (by simp)
          simp at hi
          simp at hlt
          omega
      exact ⟨β, a, w, _, .refl _, I, fun j hj => ready_none F.drawn hs hnil (j + 1) j (Nat.lt_succ_self j) hj, .refl _ _⟩
    | some i =>
      simp only []
      rw [linearise_go_acc, List.reverse_singleton, List.singleton_append]
      obtain ⟨hil, hr⟩ := ready_mem (List.mem_of_getElem? hi) hs
      obtain ⟨β1, a1, w1, h1, h2, h3⟩ := step_any hG F I hr hil (b := b) (rest := Region.linearise.go .any ops fuel (t / (Region.ready .any ops listed).length) (listed.setIfInBounds i true) []) (k := k) (cs := cs)
      have hset : ∀ j, (listed.setIfInBounds i true).getD j false = true ↔ (listed.getD j false = true ∨ j = i) := fun j => by
        have hl : i < listed.size := by omega
        simp only [Array.getD_eq_getD_getElem?, Array.getElem?_setIfInBounds]
        by_cases hij : i = j
        · subst hij; simp [hl]
        · have : ¬ j = i := fun h => hij h.symm
          simp [hij, this]
      have hpred : (fun j => (listed.getD j false = true ∨ j = i)) = fun j => (listed.setIfInBounds i true).getD j false = true := funext fun j => propext (hset j).symm
      rw [hpred] at h2
      have hun := unl_set (f := fun j => listed.getD j false) (g := fun j => (listed.setIfInBounds i true).getD j false) (i := i) (by have := hr.2.1; simpa using this) ((hset i).2 (.inr rfl)) (fun j hj => by
        have := hset j
        cases h : listed.getD j false with
        | true => exact this.2 (.inl h)
        | false =>
          cases h' : (listed.setIfInBounds i true).getD j false with
          | false => rfl
          | true => rcases this.1 h' with h'' | h''
                    · rw [h] at h''; cases h''
                    · exact absurd h'' hj) ops.size hil
      obtain ⟨β2, a2, w2, D2, g1, g2, g3, g4⟩ := ih (t / (Region.ready .any ops listed).length) (listed.setIfInBounds i true) β1 a1 w1 (by simpa using hs) (by omega) h2
      exact ⟨β2, a2, w2, D2, h1.trans g1, g2, g3, h3.trans g4⟩

/-! ### Before and behind -/
theorem inv_start (F : Facts P G rec E ops S B) (hW : WR P B β (S 0).V w) (hS : SR β E (S 0) a) (hD : ∀ j, ¬ D j) : Inv P E ops S B D β a w := by
  have hset : ∀ x, Settled ops S D 0 x := fun x j _ _ => ⟨fun h => absurd h (hD j), fun h => by omega⟩
  refine ⟨fun i h hd => absurd hd (hD i), hS.tm.1, fun t i hi h => ?_, hS.df, hW.glob, fun x hx => .inl ?_, fun x b cp sh he => ?_, fun x he => ⟨0, Nat.zero_le _, hset x, hW.ltD he, hW.dead x he⟩, hW.inj, hW.own, hW.low, hW.base, hW.kept, fun x h1 h2 => (hW.frz x h1 h2).1, fun j hd => absurd hd (hD j), fun j hd => absurd hd (hD j)⟩
  · have : ∀ m, m ≤ i → tget (S m).tm t = tget (S 0).tm t := by
      intro m
      induction m with
      | zero => intro _; rfl
      | succ m ih =>
        intro hm
        have hml : m < ops.size := by omega
        rw [step_tm F hml, ih (by omega)]
        intro hd
        exact absurd ((h m hml _ (Array.getElem?_eq_getElem hml) hd).2 (by omega)) (hD m)
    rw [this i (Nat.le_refl _)]; exact hS.tm.2 t
  · rcases Nat.lt_or_ge x (S 0).V.size with h | h
    · exact h
    · exact absurd (hW.out x h) hx
  · obtain ⟨o, o', h1, h2, h3⟩ := hW.obj x b cp sh he
    exact ⟨0, Nat.zero_le _, hset x, hW.lt he, o, o', h1, h2, h3⟩

theorem inv_end (F : Facts P G rec E ops S B) (I : Inv P E ops S B D β a w) (hD : ∀ j, j < ops.size → D j) : WR P B β (S ops.size).V w ∧ SR β E (S ops.size) a := by
  have hn := Nat.le_refl ops.size
  have hset : ∀ x, Settled ops S D ops.size x := fun x j hj _ => ⟨fun _ => hj, fun _ => hD j hj⟩
  have hs0 := size_le F ops.size 0 (by omega) hn
  have hfl := F.floor ops.size hn
  have := F.gsz
  have := F.gfl
  have := F.grow
  have hvis : ∀ x, β x ≠ .fresh → x < (S ops.size).V.size := fun x hx => by
    rcases I.vis x hx with h | ⟨j, _, hj, _, h⟩
    · omega
    · have := size_le F ops.size (j + 1) hj hn; omega
  refine ⟨⟨I.glob, by omega, by omega, F.top _ hn, fun x hx => ?_, fun x b cp sh he => mem_at F I hn he (hset x) (hvis x (by rw [he]; nofun)), fun x he => dead_at F I hn he (hset x) (hvis x (by rw [he]; nofun)), I.inj, fun x b cp sh he hx => I.own x b cp sh he (by omega),
    fun x hx => F.keep0 _ hn x (by omega), by rw [hfl]; exact F.flo, fun x hx => I.low x (by omega), by omega, I.base, I.kept, fun x h1 h2 => ⟨I.frz x h1 h2, F.frz _ hn x h1 h2⟩, F.bd _ hn⟩,
    ⟨⟨I.size, fun t => I.tmp t _ hn fun j hj _ _ _ => ⟨fun _ => hj, fun _ => hD j hj⟩⟩, by rw [F.df _ hn]; exact I.df⟩⟩
  cases hb : β x with
  | fresh => rfl
  | _ => have := hvis x (by rw [hb]; nofun); omega
end

section
variable {P : Program} {G : VW} {rec : Rec}
theorem pair_get {l : List Oper} {j : Nat} (h : j < (pairL l).length) : ∃ h' : j < l.length, ((pairL l)[j]).1 = l[j] ∧ (clsL l)[j]? = some ((pairL l)[j]).2 := by
  unfold pairL at h ⊢
  have h1 : j < l.length := by simp at h; omega
  have h2 : j < (clsL l).length := by simp at h; omega
  exact ⟨h1, by simp, by simp [h2]⟩
theorem pair_length (l : List Oper) : (pairL l).length = l.length := by unfold pairL; simp [cls_length]

theorem foot_cls {o : Oper} {tm : T Value} {all : List Oper} {x : Nat} {wr : Bool} (h : foot all o tm = some (x, wr)) : (wr = true ∧ clsOf o.op = 3) ∨ (wr = false ∧ clsOf o.op = 2) := by
  unfold foot at h
  split at h
  · unfold footOf at h
    split at h
    · rename_i hq
      cases hb : blockOf (ev tm _) <;> rw [hb] at h <;> cases h
      exact .inr ⟨rfl, by rw [hq]; rfl⟩
    · rename_i hq
      cases hb : blockOf (ev tm _) <;> rw [hb] at h <;> cases h
      exact .inl ⟨rfl, by rw [hq]; rfl⟩
    · cases h
  · cases h

theorem cls_new {o : Op} (h : clsOf o = 1) : (∃ t, o = .alloc t) ∨ ∃ t x, o = .box t x := by
  cases o <;> first | exact .inl ⟨_, rfl⟩ | exact .inr ⟨_, _, rfl⟩ | (simp [clsOf, quiet] at h; done)

/-- A new variable, a load and what is quiet do not ask how high the floor is. -/
theorem any_floor {o : Oper} (hc : clsOf o.op ≤ 2) {e : Rho} {V V' : VW} {v : Value} (hp : plainGo P o e V = .val v V') : V'.floor = V.floor ∧ plainGo P o e ((upV V)) = .val v ⟨V'.heap, V'.size, V.size⟩ := by
  by_cases h0 : clsOf o.op = 0
  · obtain ⟨rfl, h⟩ := quiet_any (cls_quiet h0) hp
    exact ⟨rfl, h _⟩
  · have new : ∀ (ob : VObj) (k : Nat → Value), newGo V ob k = .val v V' → V'.floor = V.floor ∧ newGo (upV V) ob k = .val v ⟨V'.heap, V'.size, V.size⟩ := fun ob k h => by
      unfold newGo at h
      split at h
      · rename_i hlt
        cases h
        refine ⟨rfl, ?_⟩
        have e : (upV V).size = V.size := rfl
        unfold newGo
        rw [e, if_pos hlt]
        simp only [VW.push, upV, Nat.add_eq, Nat.add_zero]
      · cases h
    have hrun : ∀ W, plainGo P o e W = (opC o o.op).run P e W := fun _ => rfl
    rcases (by omega : clsOf o.op = 1 ∨ clsOf o.op = 2) with h1 | h2
    · rcases cls_new h1 with ⟨t, hq⟩ | ⟨t, y, hq⟩
      · have hr : ∀ W, plainGo P o e W = allocO t P e W := fun W => by rw [hrun, hq]; rfl
        rw [hr] at hp ⊢
        unfold allocO at hp ⊢
        split at hp
        · exact new _ _ hp
        · cases hp
      · have hr : ∀ W, plainGo P o e W = boxO t y P e W := fun W => by rw [hrun, hq]; rfl
        rw [hr] at hp ⊢
        exact new _ _ hp
    · obtain ⟨t, y, hq⟩ := cls_load h2
      have hr : ∀ W, plainGo P o e W = ofV W (loadGo P t W (e y)) := fun W => by rw [hrun, hq]; rfl
      rw [hr] at hp ⊢
      obtain ⟨h1, rfl⟩ := ofV_spec hp
      refine ⟨rfl, ?_⟩
      have : loadGo P t (upV V') (e y) = loadGo P t V' (e y) := rfl
      rw [this, h1]
      rfl

theorem calm_one {E : Env} {all : List Oper} {o : Oper} {k : Nat} (hk : (k = clsOf o.op ∧ k ≠ 4) ∨ (k = 5 ∧ clsOf o.op = 4)) {s s1 : St} {x : X} (h : oneGo rec P E all o s s.V = .fall x s1) : oneDraw rec P E all o k s = .fall x s1 := by
  unfold oneDraw
  by_cases h35 : k = 3 ∨ k = 5
  · have : (Nat.beq k 3 || Nat.beq k 5) = true := by rcases h35 with rfl | rfl <;> rfl
    rw [this]; exact h
  · have hb : (Nat.beq k 3 || Nat.beq k 5) = false := by
      cases hbb : (Nat.beq k 3 || Nat.beq k 5) with
      | false => rfl
      | true =>
        simp only [Bool.or_eq_true] at hbb
        rcases hbb with hh | hh
        · exact absurd (.inl (Nat.eq_of_beq_eq_true hh)) h35
        · exact absurd (.inr (Nat.eq_of_beq_eq_true hh)) h35
    rw [hb]
    have hc2 : clsOf o.op ≤ 2 := by
      rcases hk with ⟨rfl, h4⟩ | ⟨rfl, _⟩
      · have := cls_le o.op
        have : clsOf o.op ≠ 3 := fun hh => h35 (.inl hh)
        omega
      · exact absurd (.inr rfl) h35
    obtain ⟨v, V', hput, hcase⟩ := one_put h
    obtain ⟨hx, hV, hdf, htm⟩ := put_ok hput
    have key : ∀ V2 : VW, V2.heap = V'.heap → V2.size = V'.size → V'.floor = s.V.floor → floorDown s.V.floor (putGo E o.dst v s V2) = .fall x s1 := by
      intro V2 e1 e2 e3
      have hp2 : ∀ W : VW, ∃ s2, putGo E o.dst v s W = .fall .normal s2 ∧ s2.V = W ∧ s2.tm = s1.tm ∧ s2.df = s1.df := by
        intro W
        cases hd : o.dst with
        | none =>
          rw [hd] at hput
          cases hput
          exact ⟨_, rfl, rfl, rfl, rfl⟩
        | some t =>
          rw [hd] at hput
          change Bool.rec (motive := fun _ => R) (badE 91 E) (putS t v s V') (okT t E.nt) = _ at hput
          cases hok : okT t E.nt with
          | false => rw [hok] at hput; cases hput
          | true =>
            rw [hok] at hput
            cases hput
            refine ⟨⟨s.tm.set 21 t v, W, s.df⟩, ?_, rfl, rfl, rfl⟩
            change Bool.rec (motive := fun _ => R) (badE 91 E) (putS t v s W) (okT t E.nt) = _
            rw [hok]
            rfl
      obtain ⟨s2, g1, g2, g3, g4⟩ := hp2 V2
      rw [g1]
      subst hx
      obtain ⟨tm2, ⟨hp, sz, fl⟩, df2⟩ := s2
      obtain ⟨tm1, ⟨hp1, sz1, fl1⟩, df1⟩ := s1
      simp only at g2 g3 g4 hV
      subst g3 g4 g2
      obtain ⟨h3, s3, f3⟩ := V'
      simp only at e1 e2 e3
      cases hV
      subst e1 e2 e3
      rfl
    rcases hcase with ⟨hw, hop⟩ | ⟨hw, rfl, rfl⟩
    · have hnc := (cls_call (o := o.op) (by omega)).1
      rw [opGo_plain hnc] at hop
      obtain ⟨e1, e2⟩ := any_floor hc2 hop
      have : oneGo rec P E all o s (floorUp s) = putGo E o.dst v s ⟨V'.heap, V'.size, s.V.size⟩ := by
        unfold oneGo
        rw [hw]
        change afterGo E o.dst s (opGo rec P E o s (floorUp s)) = _
        rw [opGo_plain hnc]
        have e2' : plainGo P o (ev s.tm) (floorUp s) = .val v ⟨V'.heap, V'.size, s.V.size⟩ := e2
        rw [e2']
        rfl
      simp only [this]
      exact key _ rfl rfl e1
    · have : oneGo rec P E all o s (floorUp s) = putGo E o.dst undef s (floorUp s) := by
        unfold oneGo
        rw [hw]
      simp only [this]
      exact key _ rfl rfl rfl

theorem calm_draw {E : Env} {all : List Oper} {a : List Nat} : ∀ (l : List (Oper × Nat)) (i : Nat) (acc : List (Nat × Option (Nat × Bool))) (s s' : St) (x : X),
    (∀ p ∈ l, ((p.2 = clsOf p.1.op ∧ p.2 ≠ 4) ∨ (p.2 = 5 ∧ clsOf p.1.op = 4)) ∧ isLook p.1.op = false) →
    (∀ t (ht : t < l.length) u (hu : u < t), ((l[t].2 = 3 ∧ ((l[u]'(by omega)).2 = 2 ∨ (l[u]'(by omega)).2 = 3)) ∨ (l[t].2 = 2 ∧ (l[u]'(by omega)).2 = 3)) → bit a (i + t) (i + u) = true) →
    (∀ g ∈ acc, ∀ h, g.2 = some h → ∀ t (ht : t < l.length), (l[t].2 = 3 ∨ (h.2 = true ∧ l[t].2 = 2)) → bit a (i + t) g.1 = true) →
    opsGo rec P E all (l.map (·.1)) s = .fall x s' → drawGo rec P E all a l i acc [] s = .fall x s'
  | [], i, acc, s, s', x, _, _, _, h => h
  | o :: l, i, acc, s, s', x, hk, hb, ha, h => by
    change thenOps (opsGo rec P E all (l.map (·.1))) (oneGo rec P E all o.1 s s.V) = _ at h
    obtain ⟨y, s1, h1, h2⟩ := thenOps_fall h
    have hko := hk o List.mem_cons_self
    have hd := calm_one hko.1 h1
    have hfk : ∀ b wr, foot all o.1 s.tm = some (b, wr) → (wr = true ∧ o.2 = 3) ∨ (wr = false ∧ o.2 = 2) := fun b wr hf => by
      rcases foot_cls hf with ⟨h1, h2⟩ | ⟨h1, h2⟩
      · rcases hko.1 with ⟨h3, _⟩ | ⟨_, h3⟩
        · exact .inl ⟨h1, by omega⟩
        · omega
      · rcases hko.1 with ⟨h3, _⟩ | ⟨_, h3⟩
        · exact .inr ⟨h1, by omega⟩
        · omega
    have hap : apartF a i (foot all o.1 s.tm) acc = true := by
      unfold apartF
      cases hf : foot all o.1 s.tm with
      | none => rfl
      | some f =>
        obtain ⟨b, wr⟩ := f
        have hfc := hfk b wr hf
        simp only
        refine List.all_eq_true.2 fun g hg => ?_
        cases hg2 : g.2 with
        | none => rfl
        | some q =>
          simp only
          cases hs : (wr || q.2) with
          | false => rfl
          | true =>
            have := ha g hg q hg2 0 (by simp) (by
              rcases hfc with ⟨rfl, h3⟩ | ⟨rfl, h3⟩
              · exact .inl h3
              · exact .inr ⟨by simpa using hs, h3⟩)
            simp only [Nat.add_zero] at this
            rw [this]; simp
    have hst : drawStep rec P E all a o.1 o.2 i acc s = .fall y s1 := by unfold drawStep; rw [hap]; exact hd
    change thenOps (fun s1 => drawGo rec P E all a l (i + 1) ((i, foot all o.1 s.tm) :: acc) (addLk P all o.1 i s s1 []) s1) (lkStep a i o.2 [] E (drawStep rec P E all a o.1 o.2 i acc s)) = _
    have hlk : lkStep a i o.2 [] E (drawStep rec P E all a o.1 o.2 i acc s) = .fall y s1 := by
      rw [hst]
      unfold lkStep
      split <;> rfl
    rw [hlk]
    have hadd : addLk P all o.1 i s s1 [] = [] := by unfold addLk; rw [hko.2]
    change drawGo rec P E all a l (i + 1) ((i, foot all o.1 s.tm) :: acc) (addLk P all o.1 i s s1 []) s1 = _
    rw [hadd]
    refine calm_draw l (i + 1) _ s1 s' x (fun p hp => hk p (List.mem_cons_of_mem _ hp)) (fun t ht u hu hc => ?_) (fun g hg q hq t ht hc => ?_) h2
    · have := hb (t + 1) (by simpa using ht) (u + 1) (by omega) (by simpa using hc)
      rw [show i + 1 + t = i + (t + 1) from by omega, show i + 1 + u = i + (u + 1) from by omega]; exact this
    · rcases List.mem_cons.1 hg with rfl | hg
      · obtain ⟨b, wr⟩ := q
        have hfc := hfk b wr hq
        have := hb (t + 1) (by simpa using ht) 0 (by omega) (by
          simp only [List.getElem_cons_succ, List.getElem_cons_zero]
          rcases hc with hc | ⟨hw, hc⟩
          · refine .inl ⟨hc, ?_⟩
            rcases hfc with ⟨_, h3⟩ | ⟨_, h3⟩
            · exact .inr h3
            · exact .inl h3
          · refine .inr ⟨hc, ?_⟩
            rcases hfc with ⟨_, h3⟩ | ⟨h4, _⟩
            · exact h3
            · simp only at hw; rw [h4] at hw; cases hw)
        rw [show i + 1 + t = i + (t + 1) from by omega]; simpa using this
      · have := ha g hg q hq (t + 1) (by simpa using ht) (by simpa using hc)
        rw [show i + 1 + t = i + (t + 1) from by omega]; exact this

theorem calm_ok {ops : Array Oper} {E : Env} {s s' : St} {x : X} (hc : calm P ops = true) (h : opsGo rec P E ops.toList ops.toList s = .fall x s') : drawD ops rec P E s = .fall x s' := by
  unfold calm at hc
  simp only [Bool.and_eq_true] at hc
  obtain ⟨hd, hc⟩ := hc
  unfold calmL at hc
  simp only [Bool.and_eq_true] at hc
  obtain ⟨hc1, hc2⟩ := hc
  unfold drawD
  rw [hd]
  have hdo : drawOk P ops.toList = true := by unfold drawable at hd; simp only [Bool.and_eq_true] at hd; exact hd.2
  have hpl : (pairL ops.toList).length = ops.size := by rw [pair_length]; simp
  have hmap : (pairL ops.toList).map (·.1) = ops.toList := by
    apply List.ext_getElem
    · simp [hpl]
    · intro n h1 h2
      have hp : n < (pairL ops.toList).length := by simpa using h1
      obtain ⟨h', g1, _⟩ := pair_get hp
      simp only [List.getElem_map]
      exact g1
  have hcl : ∀ n (h : n < (clsL ops.toList).length), (clsL ops.toList)[n] ≠ 4 := fun n h => by
    have := List.all_eq_true.1 hc1 _ (List.getElem_mem h)
    simpa using this
  have hel : ∀ n (hp : n < (pairL ops.toList).length), ∃ h : n < (clsL ops.toList).length, ((pairL ops.toList)[n]).2 = (clsL ops.toList)[n] := fun n hp => by
    obtain ⟨_, _, g2⟩ := pair_get hp
    obtain ⟨h, g3⟩ := List.getElem?_eq_some_iff.1 g2
    exact ⟨h, g3.symm⟩
  refine calm_draw (pairL ops.toList) 0 [] s s' x (fun p hp => ?_) (fun t ht u hu hcc => ?_) (fun g hg => by cases hg) (by rw [hmap]; exact h)
  · obtain ⟨n, hn, rfl⟩ := List.mem_iff_getElem.1 hp
    obtain ⟨h', g1, g2⟩ := pair_get hn
    obtain ⟨hcn, hce⟩ := hel n hn
    have hno : n < ops.size := by omega
    have hg := clsL_of hno g2
    have hne := hcl n hcn
    rw [← hce] at hne
    have e1 : ((pairL ops.toList)[n]).1 = ops[n] := by rw [g1]; simp
    rw [e1]
    refine ⟨?_, ?_⟩
    · rcases hg with ⟨h1, h2⟩ | ⟨h1, h2⟩
      · exact .inl ⟨h1, hne⟩
      · exact .inr ⟨h1, h2⟩
    · cases hl : isLook ops[n].op with
      | false => rfl
      | true =>
        exfalso
        have h4 : clsOf ops[n].op = 4 := by cases hq : ops[n].op <;> rw [hq] at hl <;> first | rfl | cases hl
        rcases hg with ⟨h1, _⟩ | ⟨h1, _⟩
        · omega
        · have := (drawn_of hdo).nolook n h' (by rw [g2, h1])
          simp only [Array.getElem_toList] at this
          rw [hl] at this; cases this
  · obtain ⟨h1, e1⟩ := hel t ht
    obtain ⟨h2, e2⟩ := hel u (by omega)
    rw [e1, e2] at hcc
    have := zipIdx_all hc2 t h1
    have := zipIdx_all this u h2
    simp only [Bool.or_eq_true, Bool.not_eq_true'] at this
    rcases this with (h3 | h3) | h3
    · rw [blt_tt hu] at h3; cases h3
    · exfalso
      rcases hcc with ⟨h4, h5⟩ | ⟨h4, h5⟩
      · rcases h5 with h5 | h5 <;> simp [h4, h5] at h3
      · simp [h4, h5] at h3
    · simpa using h3

theorem draw_good (hG : Good P G rec) {ops : Array Oper} {E : Env} {s : St} (hok : okOps P ops.toList = true) {id : Nat} : CodeOk P G (drawC ops rec P E s) [.code (.region id ops true)] E s := by
  intro x s' he B β a w b k cs hB hW hS hF
  have he : drawD ops rec P E s = .fall x s' := by
    unfold drawC at he
    split at he
    · rename_i hc; exact calm_ok hc he
    · exact he
  unfold drawD at he
  split at he
  · rename_i hdr
    unfold drawable at hdr
    simp only [Bool.and_eq_true] at hdr
    obtain ⟨hm, hdk⟩ := hdr
    have hD := drawn_of hdk
    obtain ⟨rfl, S, hS0, hSn, hrun⟩ := draw_run _ _ _ _ _ _ _ he
    have hpl : (pairL ops.toList).length = ops.size := by rw [pair_length]; simp
    rw [hpl] at hSn
    have hWd : WR P B β (S 0).V { w with drawn := w.drawn + 1 } := by rw [hS0]; exact hW.drew rfl rfl rfl rfl
    have hSd : SR β E (S 0) a := by rw [hS0]; exact hS
    have F : Facts P G rec E ops S B := by
      refine facts_of hG hB hok hD hWd hSd (fun i h => ?_) (fun i h j hj bb s1 s2 f1 f2 hs => ?_) (fun i h j hij hj h5 hl hw => ?_)
      · have hp : i < (pairL ops.toList).length := by omega
        obtain ⟨h', g1, g2⟩ := pair_get hp
        obtain ⟨r1, _, _⟩ := hrun i hp
        rw [g1] at r1
        exact ⟨_, g2, by simpa using r1⟩
      · have hp : i < (pairL ops.toList).length := by omega
        obtain ⟨h', g1, _⟩ := pair_get hp
        have hpj : j < (pairL ops.toList).length := by omega
        obtain ⟨hj', g1j, _⟩ := pair_get hpj
        obtain ⟨_, _, r3, _⟩ := hrun i hp
        have := r3 j hj bb s1 s2 (by rw [g1]; simpa using f1) (by simp only [g1j]; simpa using f2) hs
        simpa using this
      · have hp : i < (pairL ops.toList).length := by omega
        obtain ⟨h', g1, _⟩ := pair_get hp
        have hpj : j < (pairL ops.toList).length := by omega
        obtain ⟨hj', _, g2j⟩ := pair_get hpj
        obtain ⟨_, _, _, _, r5⟩ := hrun j hpj
        rw [h5] at g2j
        have := r5 i hij (Option.some.inj g2j).symm (by rw [g1]; simpa using hl) (by rw [g1]; simpa using hw)
        rw [g1] at this
        simpa using this
    have I0 : Inv P E ops S B (fun j => (Array.replicate ops.size false).getD j false = true) β a { w with drawn := w.drawn + 1 } := by
      refine inv_start F hWd hSd fun j h => ?_
      by_cases hj : j < ops.size
      · simp [Array.getD, hj] at h
      · simp [Array.getD, hj] at h
    obtain ⟨β', a', w', D', h1, h2, h3, h4⟩ := go_ok hG F (b := b) (k := k) (cs := cs) ops.size (w.tape w.drawn (.order b.fn id)) _ β a _ (by simp) (unl_le _ _) I0
    obtain ⟨e2, e3⟩ := inv_end F h2 h3
    rw [hSn] at e2 e3
    refine ⟨β', a', w', h1, e2, e3, .head stepR_region_draw ?_⟩
    simp only [Region.schedule, hm, Bool.true_or, if_true]
    exact h4.trans (.one stepR_region_end)
  · cases he
end
end Go.Vx
/-! The whole machine: what it says, a call does. -/
namespace Go.Vx
variable [Syms]
variable [Keeps]
open Go.RowKit

section
variable {P : Program} {G : VW} {rec : Rec}

theorem code_good (hG : Good P G rec) : ∀ (c : Code) (E : Env) (s : St), OkC P E.fn c → CodeOk P G (codeC c rec P E s) [.code c] E s := by
  intro c E s hc
  cases c with
  | skip => exact CodeOk.fall fun a w b k cs => .one stepR_skip
  | label l => exact CodeOk.fall fun a w b k cs => .one stepR_label
  | seq x y =>
    replace hc := hc.seq
    exact CodeOk.then (items1 := [.code x]) (items2 := [.code y]) (fun a w b k cs => .one stepR_seq) (hG.code x E s hc.1) (fun s1 _ => hG.code y E s1 hc.2) (fun hne h => Way.pass (i := .code y) rfl hne h)
  | cond o x y => exact cond_good hG hc.cond.1 hc.cond.2.1 hc.cond.2.2
  | block id x => exact block_good (c := x) hG ⟨hc.1, hc.2⟩
  | loop x => exact loop_good (c := x) (items := [.code (.loop x)]) hG hc (fun a w b k cs => .one stepR_loop)
  | exit id => exact CodeOk.fall fun a w b k cs => ⟨k, rfl, .refl _ _⟩
  | goto l => exact CodeOk.fall fun a w b k cs => ⟨k, rfl, .refl _ _⟩
  | ret => exact CodeOk.fall fun a w b k cs => ⟨k, .refl _ _⟩
  | scope x => exact scope_good (b0 := x) (c := x) (items := [.code (.scope x)]) hG ⟨hc.1, hc.2⟩ ⟨hc.1, hc.2⟩ (fun a w b k cs => .one stepR_scope)
  | region id ops d =>
    cases d with
    | false => exact list_good hG hc.1
    | true => exact draw_good hG hc.1
  | rangeFunc f ps as x =>
    exact range_good hG hc.range.1 hc.range.2.1 hc.range.2.2
  | refuse r => intro x s' h; cases h

/-- What is known of calls. -/
structure OrcOk (P : Program) (G : VW) (Q : Orc) : Prop where
  ans : ∀ f args v, Q.ans f args = some v → ∀ V, CallOk P G (.val v V) f args V
  rows : ∀ f args h, Q.rows f args = some h → ∀ V : VW, V.size < top → CallOk P G (.val (h.val V.size) (V.push (.cells h.cells h.ty false))) f args V
  base : Q.base = ⟨G.heap, P.globals.size, P.globals.size⟩
  deep : ∀ f args V v V', Q.deep f args V = some (v, V') → CallOk P G (.val v V') f args V
  cuts : ∀ c E s r, OkC P E.fn (.loop c) → Q.cuts c E s = some r → CodeOk P G r [.inLoop c] E s

theorem VRs.flatL {β : Nat → Ren} : ∀ {l : List Value}, l.all flat = true → VRs β l l
  | [], _ => .nil
  | x :: l, h => by simp only [List.all_cons, Bool.and_eq_true] at h; exact .cons (VR.flat h.1) (VRs.flatL h.2)
theorem flat_args {β : Nat → Ren} : ∀ {l l' : List Value}, VRs β l l' → l.all flat = true → l' = l
  | _, _, .nil, _ => rfl
  | _, _, .cons h t, ha => by
    simp only [List.all_cons, Bool.and_eq_true] at ha
    rw [h.of_flat ha.1, flat_args t ha.2]

theorem Known.call (hT : Tabs P G) {f : FuncId} {args : List Value} {v : Value} (h : Known P G f args v) (ha : args.all flat = true) (hv : flat v = true) (V : VW) : CallOk P G (.val v V) f args V := by
  intro v1 V1 he B β w args' hB hW hA _ cs
  cases he
  rw [flat_args hA ha]
  obtain ⟨w', fr, h1, h2, h3, h4⟩ := h w (lies_of hT hB hW) cs
  exact ⟨β, _, w', fr, .refl _, hW.later h4, VR.flat hv, h1, h2, h3⟩

theorem base_of (hT : Tabs P G) {f : FuncId} {args args' : List Value} {r : R} (hr : CallOk P G r f args ⟨G.heap, P.globals.size, P.globals.size⟩) {v : Value} {V' : VW} (he : r = .val v V')
    (ha : ∀ β, VRs β args args') (hv : flat v = true) (hf : ∃ fn c, P.funcs[f]? = some fn ∧ fn.body = some c) : Known P G f args' v := by
  intro w hL cs
  have hW := start_ok hT hL
  obtain ⟨β', v', w', fr, h1, h2, h3, h4, h5, h6⟩ := hr v V' he _ _ w args' ⟨fun _ _ => rfl, hL.2⟩ hW (ha _) hf cs
  have := h3.of_flat hv
  subst this
  exact ⟨w', fr, h4, h5, h6, h2.base⟩

theorem call_good (hT : Tabs P G) {Q : Orc} (hQ : OrcOk P G Q) (hG : Good P G rec) (f : FuncId) (args : List Value) (V : VW) : CallOk P G (callT f args V P Q rec) f args V := by
  intro v1 V1 hp B β w args' hB hW hA hf cs
  unfold callT at hp
  split at hp
  · rename_i v hv
    exact hQ.ans f args v hv V v1 V1 hp B β w args' hB hW hA hf cs
  unfold deepT at hp
  split at hp
  · rename_i u U hu
    exact hQ.deep f args V u U hu v1 V1 hp B β w args' hB hW hA hf cs
  · unfold rowsT at hp
    split at hp
    · rename_i h hh
      split at hp
      · rename_i hlt
        exact hQ.rows f args h hh V (blt_lt hlt) v1 V1 hp B β w args' hB hW hA hf cs
      · cases hp
    · unfold tryT at hp
      split at hp
      · split at hp
        · rename_i hfl
          unfold flatBack at hp
          split at hp
          · rename_i v V2 hb
            split at hp
            · rename_i hv
              cases hp
              have hfl' : args.all flat = true := by unfold allFlat at hfl; rw [allL_eq] at hfl; exact hfl
              exact (hG.base f args v1 V2 hb hfl' hv hf).call hT hfl' hv V v1 V rfl B β w args' hB hW hA hf cs
            · cases hp
          · cases hp
          · cases hp
        · exact fresh_good hG f args V v1 V1 hp B β w args' hB hW hA hf cs
      · exact fresh_good hG f args V v1 V1 hp B β w args' hB hW hA hf cs

theorem step_good (hT : Tabs P G) {Q : Orc} (hQ : OrcOk P G Q) (hG : Good P G rec) : Good P G (stepX P Q rec) := by
  refine ⟨fun c E s hc => code_good hG c E s hc, fun c E s hc => ?_, fun x c E s hx hc => ?_, fun f args V => call_good hT hQ hG f args V, fun l args V => ?_, fun f args => ?_⟩
  · show CodeOk P G (againT c E s P Q rec) _ _ _
    unfold againT
    split
    · rename_i r hr
      exact hQ.cuts c E s r hc hr
    · exact loop_good (items := [.inLoop c]) hG hc (fun a w b k cs => .one stepR_inLoop)
  · exact scope_good (items := [.code c, .inScope x]) hG hx hc (fun a w b k cs => .refl _ _)
  · exact round_good hG l args V
  · intro v V' hp ha hv hf
    have hp : freshT f args Q.base P rec = .val v V' := hp
    rw [hQ.base] at hp
    exact base_of hT (fresh_good hG f args _) hp (fun _ => VRs.flatL ha) hv hf

theorem run_good (hT : Tabs P G) {Q : Orc} (hQ : OrcOk P G Q) : ∀ n, Good P G (run P Q n)
  | 0 => ⟨fun _ _ _ _ _ _ h => (by cases h), fun _ _ _ _ _ _ h => (by cases h), fun _ _ _ _ _ _ _ _ h => (by cases h), fun _ _ _ _ _ h => (by cases h), fun _ _ _ _ _ h => (by cases h), fun _ _ _ _ h => (by cases h)⟩
  | n + 1 => step_good hT hQ (run_good hT hQ n)

/-- What the arguments stand for is what counts. -/
theorem known_sym (hT : Tabs P G) {Q : Orc} (hQ : OrcOk P G Q) {n : Nat} {f : FuncId} {args args' : List Value} {v : Value} {V' : VW} (hr : run P Q n (.call f args ⟨G.heap, P.globals.size, P.globals.size⟩) = .val v V')
    (ha : ∀ β, VRs β args args') (hv : flat v = true) (hf : ∃ fn c, P.funcs[f]? = some fn ∧ fn.body = some c) : Known P G f args' v :=
  base_of hT ((run_good hT hQ n).call f args _) hr ha hv hf
theorem known_of (hT : Tabs P G) {Q : Orc} (hQ : OrcOk P G Q) {n : Nat} {f : FuncId} {args : List Value} {v : Value} {V' : VW} (hr : run P Q n (.call f args ⟨G.heap, P.globals.size, P.globals.size⟩) = .val v V')
    (ha : args.all flat = true) (hv : flat v = true) (hf : ∃ fn c, P.funcs[f]? = some fn ∧ fn.body = some c) : Known P G f args v :=
  known_sym hT hQ hr (fun _ => VRs.flatL ha) hv hf

/-- A call with symbols: known where they stand for what it is known of. -/
theorem Known.callS (hT : Tabs P G) {f : FuncId} {args args' : List Value} {v : Value} (h : Known P G f args' v) (hi : ∀ β A, VRs β args A → A = args') (hv : flat v = true) (V : VW) : CallOk P G (.val v V) f args V := by
  intro v1 V1 he B β w A hB hW hA _ cs
  cases he
  rw [hi β A hA]
  obtain ⟨w', fr, h1, h2, h3, h4⟩ := h w (lies_of hT hB hW) cs
  exact ⟨β, _, w', fr, .refl _, hW.later h4, VR.flat hv, h1, h2, h3⟩

theorem Known.calls {f : FuncId} {args : List Value} {v : Value} (h : Known P G f args v) {w : World} (hL : Lies P G w) : Calls P f ⟨args⟩ w fun e w' => e = .returned v ∧ Below w.heap.size w w' := by
  intro cs
  obtain ⟨w', fr, h1, h2, h3, h4⟩ := h w hL cs
  exact ⟨_, w', fr, ⟨rfl, h4⟩, h1, h2, h3⟩

/-- The one oracle, or else the other. -/
def orElse (Q1 Q2 : Orc) : Orc := ⟨fun f args => match Q1.ans f args with
  | some v => some v
  | none => Q2.ans f args, fun f args => match Q1.rows f args with
  | some v => some v
  | none => Q2.rows f args, Q2.tries, Q2.base, fun f args V => match Q1.deep f args V with
  | some v => some v
  | none => Q2.deep f args V, fun c E s => match Q1.cuts c E s with
  | some v => some v
  | none => Q2.cuts c E s⟩
theorem OrcOk.or {Q1 Q2 : Orc} (h1 : OrcOk P G Q1) (h2 : OrcOk P G Q2) : OrcOk P G (orElse Q1 Q2) := by
  refine ⟨fun f args v h => ?_, fun f args v h => ?_, h2.base, fun f args V v V' h => ?_, fun c E s r hc h => ?_⟩
  · simp only [orElse] at h
    split at h
    · rename_i u hu
      cases h
      exact h1.ans f args _ hu
    · exact h2.ans f args v h
  · simp only [orElse] at h
    split at h
    · rename_i u hu
      cases h
      exact h1.rows f args _ hu
    · exact h2.rows f args v h
  · simp only [orElse] at h
    split at h
    · rename_i u hu
      cases h
      exact h1.deep f args V _ _ hu
    · exact h2.deep f args V v V' h
  · simp only [orElse] at h
    split at h
    · rename_i u hu
      cases h
      exact h1.cuts c E s _ hc hu
    · exact h2.cuts c E s r hc h
/-- What is told of values, holds. -/
def AnsOk (P : Program) (G : VW) (a : FuncId → List Value → Option Value) : Prop := ∀ f args v, a f args = some v → ∀ V, CallOk P G (.val v V) f args V
/-- The one, or else the other. -/
def orAns (a b : FuncId → List Value → Option Value) (f : FuncId) (args : List Value) : Option Value := match a f args with
  | some v => some v
  | none => b f args
theorem AnsOk.or {a b : FuncId → List Value → Option Value} (h1 : AnsOk P G a) (h2 : AnsOk P G b) : AnsOk P G (orAns a b) := fun f args v h => by
  unfold orAns at h
  split at h
  · rename_i u hu
    cases h
    exact h1 f args _ hu
  · exact h2 f args v h
theorem AnsOk.none : AnsOk P G (fun _ _ => none) := fun _ _ _ h => by cases h
/-- An oracle that knows values alone. -/
def valOrc (tries : FuncId → Bool) (V : VW) (a : FuncId → List Value → Option Value) : Orc := ⟨a, fun _ _ => none, tries, V, noDeep, noCuts⟩
theorem valOrc_ok {tries : FuncId → Bool} {V : VW} {a : FuncId → List Value → Option Value} (hV : V = ⟨G.heap, P.globals.size, P.globals.size⟩) (h : AnsOk P G a) : OrcOk P G (valOrc tries V a) :=
  ⟨h, fun _ _ _ hh => (by cases hh), hV, fun _ _ _ _ _ hh => (by cases hh), fun _ _ _ _ _ hh => (by cases hh)⟩
theorem nothing_known {V : VW} (hV : V = ⟨G.heap, P.globals.size, P.globals.size⟩) : OrcOk P G (noOrc V) := ⟨fun _ _ _ h => (by cases h), fun _ _ _ h => (by cases h), hV, fun _ _ _ _ _ h => (by cases h), fun _ _ _ _ _ h => (by cases h)⟩
end
end Go.Vx
/-! Tables of what is known of calls. -/
namespace Go.Vx
variable [Syms]
variable [Keeps]
open Go.RowKit

def findV (args : List Value) : List (List Value × Value) → Option Value
  | [] => none
  | e :: l => match eqA e.1 args with
    | true => some e.2
    | false => findV args l
def findF (f : Nat) (args : List Value) : List (Nat × List (List Value × Value)) → Option Value
  | [] => none
  | p :: l => match Nat.beq p.1 f with
    | true => match findV args p.2 with
      | some v => some v
      | none => findF f args l
    | false => findF f args l

theorem findV_mem {args : List Value} {v : Value} : ∀ {l : List (List Value × Value)}, findV args l = some v → (args, v) ∈ l
  | [], h => by cases h
  | e :: l, h => by
    simp only [findV] at h
    split at h
    · rename_i he
      cases h
      rw [← eqA_eq he]
      exact List.mem_cons_self
    · exact List.mem_cons_of_mem _ (findV_mem h)
theorem findF_mem {f : Nat} {args : List Value} {v : Value} : ∀ {l : List (Nat × List (List Value × Value))}, findF f args l = some v → ∃ t, (f, t) ∈ l ∧ (args, v) ∈ t
  | [], h => by cases h
  | p :: l, h => by
    simp only [findF] at h
    split at h
    · rename_i he
      have := Nat.eq_of_beq_eq_true he
      subst this
      split at h
      · rename_i v' hv
        cases h
        exact ⟨p.2, List.mem_cons_self, findV_mem hv⟩
      · obtain ⟨t, h1, h2⟩ := findF_mem h
        exact ⟨t, List.mem_cons_of_mem _ h1, h2⟩
    · obtain ⟨t, h1, h2⟩ := findF_mem h
      exact ⟨t, List.mem_cons_of_mem _ h1, h2⟩

section
variable {P : Program} {G : VW}
/-- An entry holds. -/
def Entry (P : Program) (G : VW) (f : FuncId) (e : List Value × Value) : Prop := Known P G f e.1 e.2 ∧ e.1.all flat = true ∧ flat e.2 = true
/-- Tables hold. -/
def Holds (P : Program) (G : VW) : List (Nat × List (List Value × Value)) → Prop
  | [] => True
  | p :: l => (∀ e ∈ p.2, Entry P G p.1 e) ∧ Holds P G l
theorem Holds.all : ∀ {l : List (Nat × List (List Value × Value))}, Holds P G l → ∀ p ∈ l, ∀ e ∈ p.2, Entry P G p.1 e
  | p :: l, h, q, hq => by
    rcases List.mem_cons.1 hq with rfl | hq
    · exact h.1
    · exact Holds.all h.2 q hq
theorem orc_of (hT : Tabs P G) {tabs : List (Nat × List (List Value × Value))} (h : ∀ p ∈ tabs, ∀ e ∈ p.2, Entry P G p.1 e) : AnsOk P G fun f args => findF f args tabs := by
  intro f args v hf V
  obtain ⟨t, h1, h2⟩ := findF_mem hf
  obtain ⟨k1, k2, k3⟩ := h _ h1 _ h2
  exact k1.call hT k2 k3 V

def isVal (v : Value) : R → Bool
  | .val u _ => eqw v u
  | _ => false
omit [Syms] in
noncomputable def entryOk [Prims] (P : Program) (Q : Orc) (V : VW) (f : FuncId) (e : List Value × Value) : Bool :=
  e.1.all flat && (flat e.2 && ((fnOf P f).isSome && isVal e.2 (run P Q 1000000 (.call f e.1 V))))
theorem entry_of (hT : Tabs P G) (hG1 : G.size = P.globals.size) (hG2 : G.floor = P.globals.size) {Q : Orc} (hQ : OrcOk P G Q) {f : FuncId} {e : List Value × Value} (h : entryOk P Q G f e = true) : Entry P G f e := by
  unfold entryOk at h
  simp only [Bool.and_eq_true] at h
  obtain ⟨h1, h2, h3, h4⟩ := h
  refine ⟨?_, h1, h2⟩
  cases hfn : fnOf P f with
  | none => rw [hfn] at h3; cases h3
  | some x =>
    obtain ⟨g1, g2, _⟩ := fnOf_spec hfn
    cases hr : run P Q 1000000 (.call f e.1 G) with
    | val u V' =>
      rw [hr] at h4
      have hu := eqw_eq (show eqw e.2 u = true from h4)
      have hG : G = ⟨G.heap, P.globals.size, P.globals.size⟩ := by
        obtain ⟨a, b, c⟩ := G
        simp only at hG1 hG2
        subst hG1 hG2
        rfl
      rw [hG] at hr
      have hr' : run P Q 1000000 (.call f e.1 ⟨G.heap, P.globals.size, P.globals.size⟩) = .val e.2 V' := by rw [hu]; exact hr
      exact known_of hT hQ hr' h1 h2 ⟨_, _, g1, g2⟩
    | fall y s => rw [hr] at h4; cases h4
    | bad m n => rw [hr] at h4; cases h4
theorem entries_of (hT : Tabs P G) (hG1 : G.size = P.globals.size) (hG2 : G.floor = P.globals.size) {Q : Orc} (hQ : OrcOk P G Q) {f : FuncId} {l : List (List Value × Value)} (h : l.all (entryOk P Q G f) = true) : ∀ e ∈ l, Entry P G f e :=
  fun e he => entry_of hT hG1 hG2 hQ (List.all_eq_true.1 h e he)
end
end Go.Vx
/-! An index for tables. -/
namespace Go.Vx
variable [Syms]
variable [Keeps]
open Go.RowKit

def hsh1 (x : Value) : Nat := match x with
  | .int _ (.ofNat m) => m
  | .int _ (.negSucc m) => Nat.add m 77
  | _ => 0
noncomputable def hshL (l : List Value) : Nat := List.rec (motive := fun _ => Nat) 5 (fun x _ ih => Nat.add (Nat.mul ih 31) (hsh1 x)) l
noncomputable def hshv (x : Value) : Nat := match x with
  | .agg a => hshL a.toList
  | z => hsh1 z
noncomputable def hshA (l : List Value) : Nat := List.rec (motive := fun _ => Nat) 0 (fun x _ ih => Nat.add (Nat.mul ih 1009) (hshv x)) l
noncomputable def hsh (f : Nat) (args : List Value) : Nat := Nat.mod (Nat.add (hshA args) (Nat.mul f 37)) 8192
abbrev Ent := Nat × List Value × Value
noncomputable def inBucket (f : Nat) (args : List Value) (l : List Ent) : Option Value :=
  List.rec (motive := fun _ => Option Value) none (fun e _ ih => Bool.rec (motive := fun _ => Option Value) ih (some e.2.2) (Nat.beq e.1 f && eqA e.2.1 args)) l
noncomputable def findI (t : T (List Ent)) (f : Nat) (args : List Value) : Option Value :=
  Option.rec (motive := fun _ => Option Value) none (fun l => inBucket f args l) (t.get (hsh f args))
noncomputable def allI (p : Ent → Bool) (t : T (List Ent)) : Bool :=
  T.rec (motive := fun _ => Bool) true (fun v _ _ il ir => Option.rec (motive := fun _ => Bool) true (fun l => l.all p) v && (il && ir)) t
def isIn (tabs : List (Nat × List (List Value × Value))) (e : Ent) : Bool := match findF e.1 e.2.1 tabs with
  | some v => eqw v e.2.2
  | none => false

theorem inBucket_mem {f : Nat} {args : List Value} {v : Value} : ∀ {l : List Ent}, inBucket f args l = some v → (f, args, v) ∈ l
  | [], h => by cases h
  | e :: l, h => by
    change Bool.rec (motive := fun _ => Option Value) (inBucket f args l) (some e.2.2) (Nat.beq e.1 f && eqA e.2.1 args) = _ at h
    cases hb : (Nat.beq e.1 f && eqA e.2.1 args) with
    | false => rw [hb] at h; exact List.mem_cons_of_mem _ (inBucket_mem h)
    | true =>
      rw [hb] at h
      simp only [Bool.and_eq_true] at hb
      have h1 := Nat.eq_of_beq_eq_true hb.1
      have h2 := eqA_eq hb.2
      have h3 : e.2.2 = v := Option.some.inj h
      obtain ⟨a, b, c⟩ := e
      simp only at h1 h2 h3
      subst h1 h2 h3
      exact List.mem_cons_self

theorem allI_get {p : Ent → Bool} : ∀ {t : T (List Ent)}, allI p t = true → ∀ i l, t.get i = some l → ∀ e ∈ l, p e = true := by
  intro t
  induction t with
  | nil => intro _ i l h; cases h
  | node v a b iha ihb =>
    intro h i l hg e he
    change (Option.rec (motive := fun _ => Bool) true (fun l => l.all p) v && (allI p a && allI p b)) = true at h
    simp only [Bool.and_eq_true] at h
    obtain ⟨h1, h2, h3⟩ := h
    change Bool.rec (motive := fun _ => Option (List Ent)) (Bool.rec (motive := fun _ => Option (List Ent)) (b.get (i / 2 - 1)) (a.get (i / 2)) (Nat.beq (i % 2) 1)) v (Nat.beq i 0) = some l at hg
    cases h0 : Nat.beq i 0 with
    | true =>
      rw [h0] at hg
      have hv : v = some l := hg
      rw [hv] at h1
      exact List.all_eq_true.1 h1 e he
    | false =>
      rw [h0] at hg
      cases hm : Nat.beq (i % 2) 1 with
      | true => rw [hm] at hg; exact iha h2 _ _ hg e he
      | false => rw [hm] at hg; exact ihb h3 _ _ hg e he

section
variable {P : Program} {G : VW}
theorem orcI_of (hT : Tabs P G) {tabs : List (Nat × List (List Value × Value))} (h : Holds P G tabs) {t : T (List Ent)} (ht : allI (isIn tabs) t = true) : AnsOk P G (findI t) := by
  intro f args v hf V
  unfold findI at hf
  cases hg : t.get (hsh f args) with
  | none => rw [hg] at hf; cases hf
  | some l =>
    rw [hg] at hf
    have hm := inBucket_mem (show inBucket f args l = some v from hf)
    have hi := allI_get ht _ _ hg _ hm
    unfold isIn at hi
    split at hi
    · rename_i u hu
      have := eqw_eq hi
      simp only at this hu
      subst this
      obtain ⟨tb, h1, h2⟩ := findF_mem hu
      obtain ⟨k1, k2, k3⟩ := Holds.all h _ h1 _ h2
      exact k1.call hT k2 k3 V
    · cases hi
end
end Go.Vx
/-! Tables that are reckoned: an entry for each number below a bound. -/
namespace Go.Vx
variable [Syms]
variable [Keeps]
open Go.RowKit

/-! Short names of values. -/
def vi (n : Nat) : Value := .int .i64 (.ofNat n)
def vn (n : Nat) : Value := .int .i64 (.negSucc n)
def vu (n : Nat) : Value := .int .u8 (.ofNat n)
def vk (k : IntKind) (n : Nat) : Value := .int k (.ofNat n)
def vl (k : IntKind) (n : Nat) : Value := .int k (.negSucc n)
def vy (n : Nat) : Value := .chan (some n)
def vt : Value := .bool true
def vf : Value := .bool false
def va (l : List Value) : Value := .agg ⟨l⟩
def vp (l : List Value) : Value := .tuple ⟨l⟩
def vs (l : List UInt8) : Value := .string ⟨⟨l⟩⟩
def vz (a b : Nat) : Value := .slice none a b

/-- The functions whose numbers are bits of m. -/
def bitsT (m : Nat) (f : Nat) : Bool := Nat.beq (Nat.mod (Nat.div m (Nat.pow (nat_lit 2) f)) (nat_lit 2)) (nat_lit 1)
/-- All numbers from lo on, n of them. -/
noncomputable def allN (p : Nat → Bool) (n : Nat) : Nat → Bool :=
  Nat.rec (motive := fun _ => Nat → Bool) (fun _ => true) (fun _ ih lo => Bool.rec (motive := fun _ => Bool) false (ih (Nat.succ lo)) (p lo)) n
theorem allN_get {p : Nat → Bool} : ∀ {n lo : Nat}, allN p n lo = true → ∀ i, lo ≤ i → i < lo + n → p i = true
  | 0, lo, _, i, h1, h2 => by omega
  | n + 1, lo, h, i, h1, h2 => by
    change Bool.rec (motive := fun _ => Bool) false (allN p n (Nat.succ lo)) (p lo) = true at h
    cases hp : p lo with
    | false => rw [hp] at h; cases h
    | true =>
      rw [hp] at h
      by_cases he : i = lo
      · rw [he]; exact hp
      · exact allN_get (lo := lo + 1) h i (by omega) (by omega)

/-- A table of one function: where an entry would stand, what it says. -/
structure Tab where
  f : Nat
  n : Nat
  key : Nat → List Value
  val : Nat → Value
  dec : List Value → Nat
noncomputable def Tab.at (t : Tab) (args : List Value) (i : Nat) : Option Value :=
  Bool.rec (motive := fun _ => Option Value) none (Bool.rec (motive := fun _ => Option Value) none (some (t.val i)) (eqA (t.key i) args)) (Nat.ble (Nat.succ i) t.n)
noncomputable def Tab.orc (t : Tab) (g : FuncId) (args : List Value) : Option Value :=
  Bool.rec (motive := fun _ => Option Value) none (t.at args (t.dec args)) (Nat.beq g t.f)

/-! An index that is made of a list. -/
noncomputable def insAt (t : T (List Ent)) (h : Nat) (e : Ent) : T (List Ent) := T.set 21 t h (e :: Option.rec (motive := fun _ => List Ent) [] (fun l => l) (t.get h))
noncomputable def mkI (l : List Ent) : T (List Ent) := List.rec (motive := fun _ => T (List Ent)) .nil (fun e _ ih => insAt ih (hsh e.1 e.2.1) e) l
theorem mkI_mem : ∀ {l : List Ent} {i : Nat} {b : List Ent}, (mkI l).get i = some b → ∀ e ∈ b, e ∈ l
  | [], i, b, h, e, he => by cases h
  | x :: l, i, b, h, e, he => by
    change (T.set 21 (mkI l) (hsh x.1 x.2.1) (x :: Option.rec (motive := fun _ => List Ent) [] (fun l => l) ((mkI l).get (hsh x.1 x.2.1)))).get i = some b at h
    have hb : hsh x.1 x.2.1 < top := Nat.lt_of_lt_of_le (Nat.mod_lt _ (by decide)) (show 8192 ≤ top by decide)
    rw [T.get_put _ _ _ hb] at h
    split at h
    · cases h
      rcases List.mem_cons.1 he with rfl | he
      · exact List.mem_cons_self
      · cases hg : (mkI l).get (hsh x.1 x.2.1) with
        | none => rw [hg] at he; cases he
        | some b' => rw [hg] at he; exact List.mem_cons_of_mem _ (mkI_mem hg e he)
    · exact List.mem_cons_of_mem _ (mkI_mem h e he)
noncomputable def orcL (l : List Ent) (f : FuncId) (args : List Value) : Option Value := findI (mkI l) f args

section
variable {P : Program} {G : VW}
omit [Syms] in
noncomputable def entOk [Prims] (P : Program) (Q : Orc) (V : VW) (e : Ent) : Bool := entryOk P Q V e.1 e.2
def Ents (P : Program) (G : VW) (l : List Ent) : Prop := ∀ e ∈ l, Entry P G e.1 e.2
theorem Ents.nil : Ents P G [] := fun _ h => by cases h
theorem Ents.app {l m : List Ent} (h : Ents P G l) (k : Ents P G m) : Ents P G (l ++ m) := fun e he => (List.mem_append.1 he).elim (h e) (k e)
theorem ents_of (hT : Tabs P G) (hG1 : G.size = P.globals.size) (hG2 : G.floor = P.globals.size) {Q : Orc} (hQ : OrcOk P G Q) {l : List Ent} (h : allL (entOk P Q G) l = true) : Ents P G l := by
  rw [allL_eq] at h
  exact fun e he => entry_of hT hG1 hG2 hQ (List.all_eq_true.1 h e he)
theorem orcL_ok (hT : Tabs P G) {l : List Ent} (h : Ents P G l) : AnsOk P G (orcL l) := by
  intro f args v hf V
  change findI (mkI l) f args = some v at hf
  unfold findI at hf
  cases hg : (mkI l).get (hsh f args) with
  | none => rw [hg] at hf; cases hf
  | some b =>
    rw [hg] at hf
    obtain ⟨k1, k2, k3⟩ := h _ (mkI_mem hg _ (inBucket_mem (show inBucket f args b = some v from hf)))
    exact k1.call hT k2 k3 V
/-- What a table says, holds. -/
def Tab.Ok (P : Program) (G : VW) (t : Tab) : Prop := ∀ i, i < t.n → Entry P G t.f (t.key i, t.val i)
theorem Tab.orc_ok (hT : Tabs P G) {t : Tab} (h : t.Ok P G) : AnsOk P G t.orc := by
  intro g args v hq V
  change Bool.rec (motive := fun _ => Option Value) none (t.at args (t.dec args)) (Nat.beq g t.f) = some v at hq
  cases hg : Nat.beq g t.f with
  | false => rw [hg] at hq; cases hq
  | true =>
    rw [hg] at hq
    have hg' := Nat.eq_of_beq_eq_true hg
    subst hg'
    change Bool.rec (motive := fun _ => Option Value) none (Bool.rec (motive := fun _ => Option Value) none (some (t.val (t.dec args))) (eqA (t.key (t.dec args)) args)) (Nat.ble (Nat.succ (t.dec args)) t.n) = some v at hq
    cases hn : Nat.ble (Nat.succ (t.dec args)) t.n with
    | false => rw [hn] at hq; cases hq
    | true =>
      rw [hn] at hq
      cases he : eqA (t.key (t.dec args)) args with
      | false => rw [he] at hq; cases hq
      | true =>
        rw [he] at hq
        have hv : t.val (t.dec args) = v := Option.some.inj hq
        have ha := eqA_eq he
        obtain ⟨k1, k2, k3⟩ := h _ (Nat.le_of_ble_eq_true hn)
        simp only [ha, hv] at k1 k2 k3
        exact k1.call hT k2 k3 V
theorem entries_allN (hT : Tabs P G) (hG1 : G.size = P.globals.size) (hG2 : G.floor = P.globals.size) {Q : Orc} (hQ : OrcOk P G Q) {f : FuncId} {key : Nat → List Value} {val : Nat → Value} {n lo : Nat}
    (h : allN (fun i => entryOk P Q G f (key i, val i)) n lo = true) : ∀ i, lo ≤ i → i < lo + n → Entry P G f (key i, val i) :=
  fun i h1 h2 => entry_of hT hG1 hG2 hQ (allN_get h i h1 h2)
end

/-! ### Symbols by tables -/
def act (ρ : Nat → Value) (v : Value) : Value := match v with
  | .chan (some i) => ρ i
  | v => v
def simp1 : Value → Bool
  | .chan (some _) => true
  | .int .. => true
  | .bool _ => true
  | .string _ => true
  | .slice none _ _ => true
  | _ => false
def opN : BinOp → Nat
  | .add => 0 | .sub => 1 | .mul => 2 | .quo => 3 | .rem => 4 | .and => 5 | .or => 6 | .xor => 7 | .shl => 8 | .shr => 9 | .andNot => 10 | .eql => 11 | .neq => 12 | .lss => 13 | .leq => 14 | .gtr => 15 | .geq => 16
theorem opN_inj {a b : BinOp} (h : opN a = opN b) : a = b := by
  cases a <;> cases b <;> first | rfl | (simp [opN] at h)
abbrev BinE := Nat × Value × Value × Value
abbrev ConvE := Nat × Value × Value
noncomputable def binT (l : List BinE) (op : BinOp) (x y : Value) : Option Value :=
  List.rec (motive := fun _ => Option Value) none (fun e _ ih => Bool.rec (motive := fun _ => Option Value) ih (some e.2.2.2) (Nat.beq e.1 (opN op) && (eqv e.2.1 x && eqv e.2.2.1 y))) l
noncomputable def convT (l : List ConvE) (k : IntKind) (x : Value) : Option Value :=
  List.rec (motive := fun _ => Option Value) none (fun e _ ih => Bool.rec (motive := fun _ => Option Value) ih (some e.2.2) (Nat.beq e.1 (kindN k) && eqv e.2.1 x)) l
@[reducible] noncomputable def tabPrims (bt : List BinE) (ct : List ConvE) : Prims := ⟨binT bt, convT ct⟩
theorem binT_mem {op : BinOp} {x y v : Value} : ∀ {l : List BinE}, binT l op x y = some v → (opN op, x, y, v) ∈ l
  | [], h => by cases h
  | e :: l, h => by
    change Bool.rec (motive := fun _ => Option Value) (binT l op x y) (some e.2.2.2) (Nat.beq e.1 (opN op) && (eqv e.2.1 x && eqv e.2.2.1 y)) = _ at h
    cases hb : (Nat.beq e.1 (opN op) && (eqv e.2.1 x && eqv e.2.2.1 y)) with
    | false => rw [hb] at h; exact List.mem_cons_of_mem _ (binT_mem h)
    | true =>
      rw [hb] at h
      simp only [Bool.and_eq_true] at hb
      have h1 := Nat.eq_of_beq_eq_true hb.1
      have h2 := eqv_eq hb.2.1
      have h3 := eqv_eq hb.2.2
      have h4 : e.2.2.2 = v := Option.some.inj h
      obtain ⟨a, b, c, d⟩ := e
      simp only at h1 h2 h3 h4
      subst h1 h2 h3 h4
      exact List.mem_cons_self
theorem convT_mem {k : IntKind} {x v : Value} : ∀ {l : List ConvE}, convT l k x = some v → (kindN k, x, v) ∈ l
  | [], h => by cases h
  | e :: l, h => by
    change Bool.rec (motive := fun _ => Option Value) (convT l k x) (some e.2.2) (Nat.beq e.1 (kindN k) && eqv e.2.1 x) = _ at h
    cases hb : (Nat.beq e.1 (kindN k) && eqv e.2.1 x) with
    | false => rw [hb] at h; exact List.mem_cons_of_mem _ (convT_mem h)
    | true =>
      rw [hb] at h
      simp only [Bool.and_eq_true] at hb
      have h1 := Nat.eq_of_beq_eq_true hb.1
      have h2 := eqv_eq hb.2
      have h4 : e.2.2 = v := Option.some.inj h
      obtain ⟨a, b, d⟩ := e
      simp only at h1 h2 h4
      subst h1 h2 h4
      exact List.mem_cons_self
/-- An entry on an operation says what the operation does. -/
def BinHolds (ρ : Nat → Value) (e : BinE) : Prop := simp1 e.2.1 = true ∧ simp1 e.2.2.1 = true ∧ simp1 e.2.2.2 = true ∧ ∀ op, opN op = e.1 → binFast op (act ρ e.2.1) (act ρ e.2.2.1) = some (act ρ e.2.2.2)
def ConvHolds (ρ : Nat → Value) (e : ConvE) : Prop := simp1 e.2.1 = true ∧ simp1 e.2.2 = true ∧ ∃ k0 n, act ρ e.2.1 = .int k0 n ∧ ∀ k, kindN k = e.1 → act ρ e.2.2 = .int k (wrapF k n)
def Plain1 (ρ : Nat → Value) : Prop := (∀ i, (ρ i).oneCell' = true) ∧ ∀ i b, ρ i ≠ .bool b
@[reducible] def valsOf (ρ : Nat → Value) (h : Plain1 ρ) : Vals := ⟨ρ, h.1, h.2⟩
omit [Syms] in
theorem act_of {ρ : Nat → Value} (hp : Plain1 ρ) {β : Nat → Ren} {x x' : Value} (h : @VR (valsOf ρ hp) β x x') (hs : simp1 x = true) : x' = act ρ x := by
  letI := valsOf ρ hp
  cases h with
  | atom ha =>
    unfold act
    split
    · simp [atom] at ha
    · rfl
  | sym => rfl
  | _ => simp [simp1] at hs
omit [Syms] in
theorem act_vr {ρ : Nat → Value} (hp : Plain1 ρ) {β : Nat → Ren} {x : Value} (hs : simp1 x = true) : @VR (valsOf ρ hp) β x (act ρ x) := by
  letI := valsOf ρ hp
  by_cases ha : atom x = true
  · have e : act ρ x = x := by
      unfold act
      split
      · simp [atom] at ha
      · rfl
    rw [e]
    exact .atom ha
  · unfold simp1 at hs
    split at hs
    · exact VR.sym
    · exact absurd rfl ha
    · exact absurd rfl ha
    · exact absurd rfl ha
    · exact absurd rfl ha
    · cases hs
omit [Syms] in
@[reducible] noncomputable def tabSyms (ρ : Nat → Value) (hp : Plain1 ρ) (bt : List BinE) (ct : List ConvE) (hb : ∀ e ∈ bt, BinHolds ρ e) (hc : ∀ e ∈ ct, ConvHolds ρ e) : Syms :=
  { toVals := valsOf ρ hp, toPrims := tabPrims bt ct
    binOk := fun op x y v h β x' y' hx hy => by
      haveI := anySyms
      obtain ⟨h1, h2, h3, h4⟩ := hb _ (binT_mem h)
      rw [act_of hp hx h1, act_of hp hy h2]
      exact ⟨_, act_vr hp h3, h4 op rfl⟩
    convOk := fun k x v h β x' hx => by
      haveI := anySyms
      obtain ⟨h1, h2, k0, n, h3, h4⟩ := hc _ (convT_mem h)
      refine ⟨k0, n, (act_of hp hx h1).trans h3, ?_⟩
      have := act_vr (β := β) hp h2
      rw [h4 k rfl] at this
      exact this }
end Go.Vx
