/-
  Says: Code: what a run of the machine here says of the model's.
-/
import Derived.Test.YtghkkohjmleepaaDoorVx8
import Derived.AtR
/-! Code: what a run of the machine here says of the model's. -/
set_option linter.unusedVariables false
set_option linter.unusedSimpArgs false
namespace Go.Vx
open Go.RowKit

/-- The other end of a loop, or of a block for deferred calls: there, or given up. -/
def RoR (β : Nat → Ren) (l l' : Nat) : Prop := (∃ cp sh, β l = .live l' cp sh) ∨ β l = .dead
theorem RoR.mono {β β' : Nat → Ren} (x : Ext β β') {l l' : Nat} : RoR β l l' → RoR β' l l'
  | .inl ⟨_, _, h⟩ => (x.live _ _ _ _ h).elim (fun h => .inl ⟨_, _, h⟩) .inr
  | .inr h => .inr (x.dead _ h)

inductive DR (β : Nat → Ren) : List Nat → List Deferred → Prop where
  | nil : DR β [] []
  | cons {k b : Nat} {l : List Nat} {l' : List Deferred} (h : RoR β k b) (t : DR β l l') : DR β (k :: l) ({ target := .collected b, args := #[] } :: l')
theorem DR.mono {β β' : Nat → Ren} (x : Ext β β') : ∀ {l : List Nat} {l' : List Deferred}, DR β l l' → DR β' l l'
  | _, _, .nil => .nil
  | _, _, .cons h t => .cons (h.mono x) (t.mono x)

structure SR (β : Nat → Ren) (E : Env) (s : St) (a : Act) : Prop where
  tm : TR β E.nt s.tm a.tmps
  df : DR β s.df a.defers
theorem SR.mono {β β' : Nat → Ren} (x : Ext β β') {E : Env} {s : St} {a : Act} (h : SR β E s a) : SR β' E s a := ⟨h.tm.mono x, h.df.mono x⟩

structure Frm (β : Nat → Ren) (E : Env) (b : Frame) : Prop where
  fn : b.fn = E.fn
  kind : b.kind = .normal
  none : E.ro = none → b.roundOf = none
  some : ∀ l, E.ro = some l → ∃ l', b.roundOf = some l' ∧ RoR β l l'
theorem Frm.mono {β β' : Nat → Ren} (x : Ext β β') {E : Env} {b : Frame} (h : Frm β E b) : Frm β' E b :=
  ⟨h.fn, h.kind, h.none, fun l e => let ⟨l', h1, h2⟩ := h.some l e; ⟨l', h1, h2.mono x⟩⟩

/-- How the machine comes out of a piece of code. -/
def Way (P : Program) (m : Machine) (b : Frame) (k : List Item) (cs : List Frame) : X → Act → World → Prop
  | .normal, a, w => Steps P m (lone (b.atR a k) cs w)
  | .exit id, a, w => ∃ k', exitTo id k' = exitTo id k ∧ Steps P m (lone (b.atR a (.code (.exit id) :: k')) cs w)
  | .goto l, a, w => ∃ k', gotoIn l k' = gotoIn l k ∧ Steps P m (lone (b.atR a (.code (.goto l) :: k')) cs w)
  | .ret, a, w => ∃ k', Steps P m (lone (b.atR a (.code .ret :: k')) cs w)

theorem Way.of_steps {P : Program} {m m1 : Machine} {b : Frame} {k : List Item} {cs : List Frame} {x : X} {a : Act} {w : World} (h : Steps P m m1) (h' : Way P m1 b k cs x a w) : Way P m b k cs x a w := by
  cases x with
  | normal => exact h.trans h'
  | exit id => obtain ⟨k', e, s⟩ := h'; exact ⟨k', e, h.trans s⟩
  | goto l => obtain ⟨k', e, s⟩ := h'; exact ⟨k', e, h.trans s⟩
  | ret => obtain ⟨k', s⟩ := h'; exact ⟨k', h.trans s⟩

/-- What lies between changes nothing for those that leave. -/
theorem Way.pass {P : Program} {m : Machine} {b : Frame} {i : Item} {k : List Item} {cs : List Frame} {x : X} {a : Act} {w : World} (hi : i.plain = true) (hx : x ≠ .normal) (h : Way P m b (i :: k) cs x a w) : Way P m b k cs x a w := by
  cases x with
  | normal => exact absurd rfl hx
  | exit id => obtain ⟨k', e, s⟩ := h; exact ⟨k', e.trans (by cases i <;> first | rfl | (cases hi)), s⟩
  | goto l => obtain ⟨k', e, s⟩ := h; exact ⟨k', e.trans (by cases i <;> first | rfl | (cases hi)), s⟩
  | ret => exact h

section
variable {P : Program}

theorem stepR_scope {b : Frame} {a : Act} {k : List Item} {cs : List Frame} {w : World} {c : Code} : step P (lone (b.atR a (.code (.scope c) :: k)) cs w) = .next (lone (b.atR a (.code c :: .inScope c :: k)) cs w) :=
  step_lone_go (by simp [stepG, stepG.exec, Frame.atR])
theorem stepR_inScope {b : Frame} {a : Act} {k : List Item} {cs : List Frame} {w : World} {c : Code} : step P (lone (b.atR a (.inScope c :: k)) cs w) = .next (lone (b.atR a k) cs w) :=
  step_lone_go (by simp [stepG, stepG.exec, Frame.atR])

/-- Which bases are meant: the globals hold what they hold. -/
def HB (P : Program) (G : VW) (B : Base) : Prop := ∀ g, g < P.globals.size → B.V0.heap.get g = G.heap.get g

def CodeOk (P : Program) (G : VW) (r : R) (items : List Item) (E : Env) (s : St) : Prop :=
  ∀ x s', r = .fall x s' → ∀ (B : Base) (β : Nat → Ren) (a : Act) (w : World) (b : Frame) (k : List Item) (cs : List Frame), HB P G B → WR P B β s.V w → SR β E s a → Frm β E b →
    ∃ β' a' w', Ext β β' ∧ WR P B β' s'.V w' ∧ SR β' E s' a' ∧ Way P (lone (b.atR a (items ++ k)) cs w) b k cs x a' w'

def CallOk (P : Program) (G : VW) (r : R) (f : FuncId) (args : List Value) (V : VW) : Prop :=
  ∀ v V', r = .val v V' → ∀ (B : Base) (β : Nat → Ren) (w : World) (args' : List Value), HB P G B → WR P B β V w → VRs β args args' →
    (∃ fn c, P.funcs[f]? = some fn ∧ fn.body = some c) → ∀ cs,
    ∃ β' v' w' fr, Ext β β' ∧ WR P B β' V' w' ∧ VR β' v v' ∧ Steps P (lone (Frame.enter P f ⟨args'⟩ .normal) cs w) (lone fr cs w') ∧ fr.fn = f ∧ fr.leaving P w' (.returned v')

def RoundOk (P : Program) (G : VW) (r : R) (l : Nat) (args : List Value) (V : VW) : Prop :=
  ∀ v V', r = .val v V' → ∀ (B : Base) (β : Nat → Ren) (w : World) (args' : List Value) (l' : Nat), HB P G B → WR P B β V w → VRs β args args' → RoR β l l' →
    ∃ lp, w.heap[l']? = some (.loop lp) ∧ args'.length = lp.params.size ∧ ∀ c cs, ∃ β' v' w', Ext β β' ∧ WR P B β' V' w' ∧ VR β' v v' ∧
      Steps P (lone (Frame.round l' lp.fn ((lp.params.zip ⟨args'⟩).foldl (fun tmps (t, a) => tmps.setIfInBounds t a) lp.tmps) lp.assign lp.body .normal) (c :: cs) w) (lone (c.finish v') cs w')

structure Good (P : Program) (G : VW) (rec : Rec) : Prop where
  code : ∀ c E s, okCode P c = true → CodeOk P G (rec (.code c E s)) [.code c] E s
  again : ∀ c E s, okCode P c = true → CodeOk P G (rec (.again c E s)) [.inLoop c] E s
  inside : ∀ b c E s, okCode P b = true → okCode P c = true → CodeOk P G (rec (.inside b c E s)) [.code c, .inScope b] E s
  call : ∀ f args V, CallOk P G (rec (.call f args V)) f args V
  round : ∀ l args V, RoundOk P G (rec (.round l args V)) l args V

/-! ### The simple ones -/
variable {G : VW}

theorem CodeOk.fall {items : List Item} {E : Env} {s : St} {x : X} (h : ∀ (a : Act) (w : World) (b : Frame) (k : List Item) (cs : List Frame), Way P (lone (b.atR a (items ++ k)) cs w) b k cs x a w) : CodeOk P G (.fall x s) items E s := by
  intro x' s' he B β a w b k cs _ hW hS _
  cases he
  exact ⟨β, a, w, .refl _, hW, hS, h a w b k cs⟩

/-- First the one, then the other. -/
theorem CodeOk.then {r : R} {K : St → R} {items items1 items2 : List Item} {E : Env} {s : St}
    (hstart : ∀ (a : Act) (w : World) (b : Frame) (k : List Item) (cs : List Frame), Steps P (lone (b.atR a (items ++ k)) cs w) (lone (b.atR a (items1 ++ (items2 ++ k))) cs w))
    (h1 : CodeOk P G r items1 E s) (h2 : ∀ s1, r = .fall .normal s1 → CodeOk P G (K s1) items2 E s1)
    (hp : ∀ {m : Machine} {b : Frame} {k : List Item} {cs : List Frame} {x : X} {a : Act} {w : World}, x ≠ .normal → Way P m b (items2 ++ k) cs x a w → Way P m b k cs x a w) :
    CodeOk P G (thenN K r) items E s := by
  intro x s' he B β a w b k cs hB hW hS hF
  have key : ∀ x1 s1, r = .fall x1 s1 → ∃ β' a' w', Ext β β' ∧ WR P B β' s1.V w' ∧ SR β' E s1 a' ∧ Way P (lone (b.atR a (items1 ++ (items2 ++ k))) cs w) b (items2 ++ k) cs x1 a' w' :=
    fun x1 s1 hr => h1 x1 s1 hr B β a w b (items2 ++ k) cs hB hW hS hF
  have out : ∀ x1 s1, r = .fall x1 s1 → x1 ≠ .normal → x1 = x → s1 = s' → ∃ β' a' w', Ext β β' ∧ WR P B β' s'.V w' ∧ SR β' E s' a' ∧ Way P (lone (b.atR a (items ++ k)) cs w) b k cs x a' w' := by
    rintro x1 s1 hr hne rfl rfl
    obtain ⟨β', a', w', e1, e2, e3, e4⟩ := key x1 s1 hr
    exact ⟨β', a', w', e1, e2, e3, .of_steps (hstart a w b k cs) (hp hne e4)⟩
  unfold thenN at he
  split at he
  · rename_i s1
    obtain ⟨β1, a1, w1, e1, e2, e3, e4⟩ := key _ _ rfl
    obtain ⟨β2, a2, w2, f1, f2, f3, f4⟩ := h2 _ rfl x s' he B β1 a1 w1 b k cs hB e2 e3 (hF.mono e1)
    exact ⟨β2, a2, w2, e1.trans f1, f2, f3, .of_steps (hstart a w b k cs) (.of_steps e4 f4)⟩
  · cases he; exact out _ _ rfl (by simp) rfl rfl
  · cases he; exact out _ _ rfl (by simp) rfl rfl
  · cases he; exact out _ _ rfl (by simp) rfl rfl
  · cases he
  · cases he

theorem TR.get {β : Nat → Ren} {nt : Nat} {tm : T Value} {tmps : Array Value} (h : TR β nt tm tmps) (t : Nat) : VR β (tget tm t) (tmps.getD t undef) := h.2 t

/-- An operand. -/
theorem ev_ok {β : Nat → Ren} {B : Base} {V : VW} {w : World} (hW : WR P B β V w) {E : Env} {s : St} {a : Act} (hS : TR β E.nt s.tm a.tmps) {x : Operand} (hx : okO P x = true) : VR β (ev s.tm x) (a.eval x) := by
  cases x with
  | tmp t => exact hS.2 t
  | const v => exact VR.flat hx
  | global g =>
    have := hW.glob g (blt_lt hx)
    exact VR.ptr (o := 0) this
  | func f => exact .atom rfl

theorem loop_good {rec : Rec} (hG : Good P G rec) {c : Code} {E : Env} {s : St} (hc : okCode P c = true) {items : List Item}
    (hstart : ∀ (a : Act) (w : World) (b : Frame) (k : List Item) (cs : List Frame), Steps P (lone (b.atR a (items ++ k)) cs w) (lone (b.atR a ([.code c] ++ ([.inLoop c] ++ k))) cs w)) :
    CodeOk P G (loopC c rec P E s) items E s :=
  CodeOk.then hstart (hG.code c E s hc) (fun s1 _ => hG.again c E s1 hc) (fun hne h => Way.pass (i := .inLoop c) rfl hne h)

theorem findLabel_ok : ∀ (b : Code) (l : Nat) (rest : Code), okCode P b = true → findLabel b l = some rest → okCode P rest = true
  | .seq x y, l, rest, h, hf => by
    simp only [okCode, Bool.and_eq_true] at h
    unfold findLabel at hf
    split at hf
    · rename_i r hr
      cases hf
      simp only [okCode, Bool.and_eq_true]
      exact ⟨findLabel_ok x l r h.1 hr, h.2⟩
    · exact findLabel_ok y l rest h.2 hf
  | .label l', l, rest, h, hf => by
    unfold findLabel at hf
    split at hf
    · cases hf; rfl
    · cases hf
  | .skip, _, _, _, hf => by cases hf
  | .region .., _, _, _, hf => by cases hf
  | .cond .., _, _, _, hf => by cases hf
  | .block .., _, _, _, hf => by cases hf
  | .loop .., _, _, _, hf => by cases hf
  | .rangeFunc .., _, _, _, hf => by cases hf
  | .exit .., _, _, _, hf => by cases hf
  | .scope .., _, _, _, hf => by cases hf
  | .goto .., _, _, _, hf => by cases hf
  | .ret, _, _, _, hf => by cases hf
  | .refuse .., _, _, _, hf => by cases hf

theorem scope_good {rec : Rec} (hG : Good P G rec) {b0 c : Code} {E : Env} {s : St} (hb : okCode P b0 = true) (hc : okCode P c = true) {items : List Item}
    (hstart : ∀ (a : Act) (w : World) (b : Frame) (k : List Item) (cs : List Frame), Steps P (lone (b.atR a (items ++ k)) cs w) (lone (b.atR a ([.code c] ++ (.inScope b0 :: k))) cs w)) :
    CodeOk P G (scopeC b0 c rec P E s) items E s := by
  intro x s' he B β a w b k cs hB hW hS hF
  have key := fun x1 s1 hr => hG.code c E s hc x1 s1 hr B β a w b (.inScope b0 :: k) cs hB hW hS hF
  unfold scopeC scopeBack at he
  split at he
  · rename_i l s1 hr
    obtain ⟨β1, a1, w1, e1, e2, e3, k', e4, e5⟩ := key _ _ hr
    split at he
    · rename_i rest hf
      obtain ⟨β2, a2, w2, f1, f2, f3, f4⟩ := hG.inside b0 rest E s1 hb (findLabel_ok b0 l rest hb hf) x s' he B β1 a1 w1 b k cs hB e2 e3 (hF.mono e1)
      refine ⟨β2, a2, w2, e1.trans f1, f2, f3, .of_steps (hstart a w b k cs) (.of_steps e5 (.of_steps (.one (stepR_goto (k' := .code rest :: .inScope b0 :: k) ?_)) f4))⟩
      rw [e4]; simp [gotoIn, hf]
    · rename_i hf
      cases he
      refine ⟨β1, a1, w1, e1, e2, e3, .of_steps (hstart a w b k cs) ⟨k', ?_, e5⟩⟩
      rw [e4]; simp [gotoIn, hf]
  · rename_i s1 hr
    cases he
    obtain ⟨β1, a1, w1, e1, e2, e3, e4⟩ := key _ _ hr
    exact ⟨β1, a1, w1, e1, e2, e3, (hstart a w b k cs).trans (Steps.trans e4 (.one stepR_inScope))⟩
  · rename_i i s1 hr
    cases he
    obtain ⟨β1, a1, w1, e1, e2, e3, k', e4, e5⟩ := key _ _ hr
    exact ⟨β1, a1, w1, e1, e2, e3, .of_steps (hstart a w b k cs) ⟨k', e4, e5⟩⟩
  · rename_i s1 hr
    cases he
    obtain ⟨β1, a1, w1, e1, e2, e3, k', e5⟩ := key _ _ hr
    exact ⟨β1, a1, w1, e1, e2, e3, .of_steps (hstart a w b k cs) ⟨k', e5⟩⟩
  · cases he
  · cases he

theorem block_good {rec : Rec} (hG : Good P G rec) {id : Nat} {c : Code} {E : Env} {s : St} (hc : okCode P c = true) : CodeOk P G (blockC id c rec P E s) [.code (.block id c)] E s := by
  intro x s' he B β a w b k cs hB hW hS hF
  have key := fun x1 s1 hr => hG.code c E s hc x1 s1 hr B β a w b (.inBlock id :: k) cs hB hW hS hF
  have hstart : Steps P (lone (b.atR a ([.code (.block id c)] ++ k)) cs w) (lone (b.atR a ([.code c] ++ (.inBlock id :: k))) cs w) := .one stepR_block
  unfold blockC blockBack at he
  split at he
  · rename_i i s1 hr
    obtain ⟨β1, a1, w1, e1, e2, e3, k', e4, e5⟩ := key _ _ hr
    split at he
    · rename_i hi
      have hi := Nat.eq_of_beq_eq_true hi
      subst hi
      cases he
      exact ⟨β1, a1, w1, e1, e2, e3, hstart.trans (e5.trans (.one (stepR_exit (by rw [e4]; simp [exitTo]))))⟩
    · rename_i hi
      cases he
      have hne : ¬ id = i := fun hh => by subst hh; simp at hi
      exact ⟨β1, a1, w1, e1, e2, e3, .of_steps hstart ⟨k', by rw [e4]; simp [exitTo, hne], e5⟩⟩
  · rename_i s1 hr
    cases he
    obtain ⟨β1, a1, w1, e1, e2, e3, e4⟩ := key _ _ hr
    exact ⟨β1, a1, w1, e1, e2, e3, hstart.trans (Steps.trans e4 (.one stepR_inBlock))⟩
  · rename_i l s1 hr
    cases he
    obtain ⟨β1, a1, w1, e1, e2, e3, k', e4, e5⟩ := key _ _ hr
    exact ⟨β1, a1, w1, e1, e2, e3, .of_steps hstart ⟨k', e4, e5⟩⟩
  · rename_i s1 hr
    cases he
    obtain ⟨β1, a1, w1, e1, e2, e3, k', e5⟩ := key _ _ hr
    exact ⟨β1, a1, w1, e1, e2, e3, .of_steps hstart ⟨k', e5⟩⟩
  · cases he
  · cases he

theorem cond_good {rec : Rec} (hG : Good P G rec) {c : Operand} {x y : Code} {E : Env} {s : St} (hc : okO P c = true) (hx : okCode P x = true) (hy : okCode P y = true) : CodeOk P G (condC c x y rec P E s) [.code (.cond c x y)] E s := by
  intro e s' he B β a w b k cs hB hW hS hF
  have hv := ev_ok hW hS.tm hc
  unfold condC at he
  have hb : ∀ t, boolOf (ev s.tm c) = some t → a.eval c = .bool t := fun t ht => by
    unfold boolOf at ht
    split at ht
    · rename_i hh; cases ht; rw [hh] at hv; exact hv.bool'
    · cases ht
  split at he
  · rename_i hh
    obtain ⟨β1, a1, w1, e1, e2, e3, e4⟩ := hG.code x E s hx e s' he B β a w b k cs hB hW hS hF
    exact ⟨β1, a1, w1, e1, e2, e3, .of_steps (.one (stepR_cond (t := true) (hb _ hh))) e4⟩
  · rename_i hh
    obtain ⟨β1, a1, w1, e1, e2, e3, e4⟩ := hG.code y E s hy e s' he B β a w b k cs hB hW hS hF
    exact ⟨β1, a1, w1, e1, e2, e3, .of_steps (.one (stepR_cond (t := false) (hb _ hh))) e4⟩
  · cases he
end
end Go.Vx
