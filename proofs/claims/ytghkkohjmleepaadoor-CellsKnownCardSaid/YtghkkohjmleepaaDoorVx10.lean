/-
  Says: Operations in a frame; calls; regions in order.
-/
import Derived.Test.YtghkkohjmleepaaDoorVx9
/-! Operations in a frame; calls; regions in order. -/
set_option linter.unusedVariables false
set_option linter.unusedSimpArgs false
namespace Go.Vx
open Go.RowKit

section
variable {P : Program} {G : VW} {B : Base} {β : Nat → Ren} {V : VW} {w : World}

theorem put_ok {E : Env} {d : Option Tmp} {v : Value} {s : St} {V' : VW} {x : X} {s' : St} (hp : putGo E d v s V' = .fall x s') :
    x = .normal ∧ s'.V = V' ∧ s'.df = s.df ∧ ((d = none ∧ s'.tm = s.tm) ∨ ∃ t, d = some t ∧ t < E.nt ∧ t < top ∧ s'.tm = s.tm.set 21 t v) := by
  cases d with
  | none => cases hp; exact ⟨rfl, rfl, rfl, .inl ⟨rfl, rfl⟩⟩
  | some t =>
    change Bool.rec (motive := fun _ => R) (badE 91 E) (putS t v s V') (Nat.blt t (Nat.min E.nt top)) = _ at hp
    cases hb : Nat.blt t (Nat.min E.nt top) with
    | false => rw [hb] at hp; cases hp
    | true =>
      rw [hb] at hp
      have hlt := blt_lt hb
      cases hp
      exact ⟨rfl, rfl, rfl, .inr ⟨t, rfl, Nat.lt_of_lt_of_le hlt (Nat.min_le_left E.nt top), Nat.lt_of_lt_of_le hlt (Nat.min_le_right E.nt top), rfl⟩⟩

theorem tget_set {tm : T Value} {t : Nat} (ht : t < top) (v : Value) (j : Nat) : tget (tm.set 21 t v) j = if j = t then v else tget tm j := by
  unfold tget
  rw [T.get_put _ _ _ ht]
  split <;> rfl

theorem getD_set {tmps : Array Value} {t : Nat} (ht : t < tmps.size) (v : Value) (j : Nat) : (tmps.setIfInBounds t v).getD j undef = if j = t then v else tmps.getD j undef := by
  simp only [Array.getD_eq_getD_getElem?, Array.getElem?_setIfInBounds]
  by_cases h : t = j
  · subst h; simp [ht]
  · have h' : ¬ j = t := fun e => h e.symm
    simp [h, h']

theorem TR.put {nt : Nat} {tm : T Value} {tmps : Array Value} (h : TR β nt tm tmps) {t : Nat} (h1 : t < nt) (h2 : t < top) {v v' : Value} (hv : VR β v v') : TR β nt (tm.set 21 t v) (tmps.setIfInBounds t v') :=
  ⟨by simp [h.1], fun j => by
    rw [tget_set h2, getD_set (by rw [h.1]; exact h1)]
    split
    · exact hv
    · exact h.2 j⟩

theorem SR.put {E : Env} {s s' : St} {a : Act} (h : SR β E s a) {d : Option Tmp} {v v' : Value} {V' : VW} {x : X} (hp : putGo E d v s V' = .fall x s') (hv : VR β v v') : SR β E s' (a.put d v') := by
  obtain ⟨_, _, hdf, h2⟩ := put_ok hp
  rcases h2 with ⟨rfl, htm⟩ | ⟨t, rfl, h3, h4, htm⟩
  · exact ⟨by rw [htm]; exact h.tm, by rw [hdf]; exact h.df⟩
  · exact ⟨by rw [htm]; exact h.tm.put h3 h4 hv, by rw [hdf]; exact h.df⟩

theorem VR.bool_inv {v : Value} {b : Bool} (h : VR β v (.bool b)) : v = .bool b := by
  cases h; rfl

theorem want_ok {s : St} {a : Act} {ops : Array Oper} {o : Oper} (hS : ∀ t j wn, o.guard = some (j, wn) → (ops[j]?).bind (·.dst) = some t → VR β (tget s.tm t) (a.tmps.getD t undef)) : wantGo ops.toList o s.tm = Region.wanted o (yielded ops a.tmps) := by
  unfold Region.wanted
  cases hg : o.guard with
  | none => unfold wantGo; rw [hg]; rfl
  | some g =>
    obtain ⟨j, want⟩ := g
    have h1 : wantGo ops.toList o s.tm = Option.rec (motive := fun _ => Bool) false (fun t => boolIs want (tget s.tm t)) ((nthL ops.toList j).bind (·.dst)) := by
      unfold wantGo; rw [hg]; rfl
    rw [h1, nthL_eq, Array.getElem?_toList]
    show _ = (yielded ops a.tmps j == some want)
    unfold yielded
    cases hd : (ops[j]?).bind (·.dst) with
    | none => rfl
    | some t =>
      show boolIs want (tget s.tm t) = _
      have hv := hS t j want hg hd
      simp only [Option.bind_some]
      cases ht : a.tmps[t]? with
      | none =>
        have : a.tmps.getD t undef = undef := by simp [Array.getD_eq_getD_getElem?, ht]
        rw [this] at hv
        have hnb : ∀ b, tget s.tm t ≠ .bool b := fun b hb => by rw [hb] at hv; cases hv.bool'
        cases hx : tget s.tm t <;> first | rfl | (rename_i b; exact absurd hx (hnb b))
      | some u =>
        have hu : a.tmps.getD t undef = u := by simp [Array.getD_eq_getD_getElem?, ht]
        rw [hu] at hv
        cases hx : tget s.tm t with
        | bool b =>
          rw [hx] at hv
          rw [hv.bool']
          cases b <;> cases want <;> rfl
        | _ =>
          have hnb : ∀ b, u ≠ .bool b := fun b hb => by rw [hb] at hv; have := hv.bool_inv; rw [hx] at this; cases this
          cases u <;> first | rfl | (rename_i b; exact absurd rfl (hnb b))

/-! ### One operation -/
theorem stepR_value {b : Frame} {a : Act} {ops : Array Oper} {i : Nat} {rest : List Nat} {k : List Item} {cs : List Frame} {o : Oper} (ho : ops[i]? = some o) (hw : Region.wanted o (yielded ops a.tmps) = true)
    (hd : ∀ c, o.op ≠ .defer c) {v : Value} {w' : World} (hr : RunsTo P (execOp a.eval o) w v w') :
    step P (lone (b.atR a (.inRegion ops (i :: rest) :: k)) cs w) = .next (lone (b.atR (a.put o.dst v) (.inRegion ops rest :: k)) cs w') := by
  have hg := stepGR_op (P := P) (b := b) (k := k) (cs := cs) (w := w) (rest := rest) ho hw
  rw [Oper.semAt_eq _ _ _ hd] at hg
  have hfin : ∀ v, (b.atR a (.inRegion ops (i :: rest) :: k)).finish v = b.atR (a.put o.dst v) (.inRegion ops rest :: k) := by
    intro v; rw [Frame.finish_atR, ho]; rfl
  refine step_lone_go ?_
  rw [hg, ← hfin]
  rcases hr with hr | ⟨rfl, hr⟩
  · simp [stepG.apply, hr]
  · simp [stepG.apply, hr]

theorem stepR_enter {b : Frame} {a : Act} {ops : Array Oper} {i : Nat} {rest : List Nat} {k : List Item} {cs : List Frame} {o : Oper} (ho : ops[i]? = some o) (hw : Region.wanted o (yielded ops a.tmps) = true)
    (hd : ∀ c, o.op ≠ .defer c) {f : FuncId} {args : Array Value} {w' : World} (hr : (execOp a.eval o).run P w = .ok (.enter f args) w') :
    step P (lone (b.atR a (.inRegion ops (i :: rest) :: k)) cs w) = .next (lone (Frame.enter P f args .normal) (b.atR a (.inRegion ops (i :: rest) :: k) :: cs) w') := by
  have hg := stepGR_op (P := P) (b := b) (k := k) (cs := cs) (w := w) (rest := rest) ho hw
  rw [Oper.semAt_eq _ _ _ hd] at hg
  exact step_lone_go (by rw [hg]; simp [stepG.apply, hr, Frame.atR])

theorem stepR_round {b : Frame} {a : Act} {ops : Array Oper} {i : Nat} {rest : List Nat} {k : List Item} {cs : List Frame} {o : Oper} (ho : ops[i]? = some o) (hw : Region.wanted o (yielded ops a.tmps) = true)
    (hd : ∀ c, o.op ≠ .defer c) {l : Nat} {f : FuncId} {tmps : Array Value} {as body : Code} {w' : World} (hr : (execOp a.eval o).run P w = .ok (.round l f tmps as body) w') :
    step P (lone (b.atR a (.inRegion ops (i :: rest) :: k)) cs w) = .next (lone (Frame.round l f tmps as body .normal) (b.atR a (.inRegion ops (i :: rest) :: k) :: cs) w') := by
  have hg := stepGR_op (P := P) (b := b) (k := k) (cs := cs) (w := w) (rest := rest) ho hw
  rw [Oper.semAt_eq _ _ _ hd] at hg
  exact step_lone_go (by rw [hg]; simp [stepG.apply, hr, Frame.atR])

theorem fnOf_spec {f : FuncId} {x : Func × Code} (h : fnOf P f = some x) : P.funcs[f]? = some x.1 ∧ x.1.body = some x.2 ∧ (x.1.name == "runtime.NumGoroutine") = false ∧ okCode P x.2 = true := by
  unfold fnOf at h
  split at h
  · rename_i fn hf
    split at h
    · rename_i c hc
      split at h
      · cases h
      · rename_i hh
        cases h
        simp only [Bool.or_eq_true, Bool.not_eq_true', not_or, Bool.not_eq_true, Bool.not_eq_false] at hh
        exact ⟨hf, hc, hh.1, hh.2⟩
    · cases h
  · cases h

theorem run_callFunc {f : FuncId} {x : Func × Code} (h : fnOf P f = some x) (args : Array Value) : (callFunc f args).run P w = .ok (.enter f args) w := by
  obtain ⟨h1, h2, h3, _⟩ := fnOf_spec h
  have h3' : ¬ (x.1.name = "runtime.NumGoroutine") := by simpa using h3
  simp [callFunc, h1, h2, h3']

/-- An operation, in a frame. -/
theorem op_ok {rec : Rec} (hG : Good P G rec) {E : Env} {o : Oper} {s : St} {v : Value} {V' : VW} (hp : opGo rec P E o s V = .val v V') (hB : HB P G B) (hW : WR P B β V w) {a : Act} (hρ : ∀ x ∈ o.op.operands, VR β (ev s.tm x) (a.eval x))
    {b : Frame} {ops : Array Oper} {i : Nat} {rest : List Nat} {k : List Item} {cs : List Frame} (ho : ops[i]? = some o) (hw : Region.wanted o (yielded ops a.tmps) = true) :
    ∃ β' v' w', Ext β β' ∧ WR P B β' V' w' ∧ VR β' v v' ∧ Steps P (lone (b.atR a (.inRegion ops (i :: rest) :: k)) cs w) (lone (b.atR (a.put o.dst v') (.inRegion ops rest :: k)) cs w') := by
  have hfin : ∀ v, (b.atR a (.inRegion ops (i :: rest) :: k)).finish v = b.atR (a.put o.dst v) (.inRegion ops rest :: k) := by
    intro v; rw [Frame.finish_atR, ho]; rfl
  have hres : (∀ c, o.op ≠ .defer c) → Res P B β w (execOp a.eval o) v V' → ∃ β' v' w', Ext β β' ∧ WR P B β' V' w' ∧ VR β' v v' ∧ Steps P (lone (b.atR a (.inRegion ops (i :: rest) :: k)) cs w) (lone (b.atR (a.put o.dst v') (.inRegion ops rest :: k)) cs w') :=
    fun hd ⟨β', v', w', h1, h2, h3, h4⟩ => ⟨β', v', w', h1, h2, h3, .one (stepR_value ho hw hd h4)⟩
  by_cases hcall : ∃ c, o.op = .call c
  · obtain ⟨c, hc⟩ := hcall
    have hd : ∀ c, o.op ≠ .defer c := fun c' hh => by rw [hc] at hh; cases hh
    have hp' : callGo c rec P E o (ev s.tm) V = .val v V' := by
      unfold opGo opGk at hp; rw [hc] at hp; exact hp
    unfold callGo at hp'
    have hops : o.op.operands = c.operands := by rw [hc]; rfl
    cases hcc : c.callee with
    | builtin bb =>
      rw [hcc] at hp'
      exact hres hd (bi_ok (rec := rec) (E := E) hW hc hcc (fun x hx => hρ x (by rw [hops]; simp [Call.operands, hcc, hx])) hp')
    | invoke r m => rw [hcc] at hp'; cases hp'
    | value f =>
      rw [hcc] at hp'
      have hf := hρ f (by rw [hops]; simp [Call.operands, hcc])
      have hargs : ∀ x ∈ c.args, VR β (ev s.tm x) (a.eval x) := fun x hx => hρ x (by rw [hops]; simp [Call.operands, hcc, hx])
      have hexec : execOp a.eval o = (do let d ← Deferred.ofValue (a.eval f) (c.args.map a.eval); invoke d.target d.args : Sem Next) := by
        unfold execOp; simp only [hc]; unfold resolve; simp only [hcc]
      have hA : c.args.map a.eval = ⟨c.args.toList.map a.eval⟩ := by apply Array.ext'; simp
      have hAR : VRs β (c.args.toList.map (ev s.tm)) (c.args.toList.map a.eval) := VRs.map fun x hx => hargs x (by simpa using hx)
      change valueGo f rec P E o c (ev s.tm) V = _ at hp'
      unfold valueGo at hp'
      split at hp'
      · rename_i g fa fb hfv
        rw [hfv] at hf
        have hfr : ∃ fa' fb', a.eval f = .func (.func g) ⟨fa'⟩ ⟨fb'⟩ ∧ VRs β fa fa' ∧ VRs β fb fb' := by
          obtain ⟨y, hy⟩ : ∃ y, a.eval f = y := ⟨_, rfl⟩
          rw [hy] at hf ⊢
          cases hf with
          | atom h =>
            cases fa with
            | nil => cases fb with
              | nil => exact ⟨[], [], rfl, .nil, .nil⟩
              | cons _ _ => simp [atom] at h
            | cons _ _ => simp [atom] at h
          | func _ h1 h2 => exact ⟨_, _, rfl, h1, h2⟩
        obtain ⟨fa', fb', hfe, h1, h2⟩ := hfr
        split at hp'
        · rename_i fx hfx
          obtain ⟨hfn, hbody, _, _⟩ := fnOf_spec hfx
          rw [appL_eq, appL_eq, mapL_eq] at hp'
          have hrun : (execOp a.eval o).run P w = .ok (.enter g ⟨fa' ++ (c.args.toList.map a.eval ++ fb')⟩) w := by
            rw [hexec, hfe, hA]
            have harr : (⟨fa'⟩ ++ ⟨c.args.toList.map a.eval⟩ ++ ⟨fb'⟩ : Array Value) = ⟨fa' ++ (c.args.toList.map a.eval ++ fb')⟩ := by apply Array.ext'; simp
            simp only [Deferred.ofValue, Sem.run_bind, Sem.run_pure, Result.andThen_ok, invoke, harr]
            exact run_callFunc hfx _
          obtain ⟨β', v', w', fr, e1, e2, e3, e4, _, e6⟩ := hG.call g _ V v V' hp' B β w _ hB hW (h1.append (hAR.append h2)) ⟨_, _, hfn, hbody⟩ (b.atR a (.inRegion ops (i :: rest) :: k) :: cs)
          refine ⟨β', v', w', e1, e2, e3, .head (stepR_enter ho hw hd hrun) (e4.trans (.one ?_))⟩
          rw [← hfin]; exact step_leave_returned e6
        · split at hp'
          · rename_i hfl
            simp only [Bool.and_eq_true] at hfl
            refine hres hd (flat_ok hW (o := o) (fun cs' bb hh => by rw [hc] at hh; cases hh) (e := ev s.tm) (fun x hx => hρ x hx) (fun x hx => ?_) hp')
            rw [hops] at hx
            simp only [Call.operands, hcc, Array.mem_append, List.mem_toArray, List.mem_cons, List.not_mem_nil, or_false] at hx
            rcases hx with rfl | hx
            · exact hfl.1
            · exact List.all_eq_true.1 hfl.2 x (by simpa using hx)
          · cases hp'
      · rename_i l fb hfv
        rw [hfv] at hf
        have hfr : ∃ l', a.eval f = .func (.yield l') ⟨[]⟩ ⟨[]⟩ ∧ RoR β l l' := by
          obtain ⟨y, hy⟩ : ∃ y, a.eval f = y := ⟨_, rfl⟩
          rw [hy] at hf ⊢
          cases hf with
          | atom h => simp [atom] at h
          | func h _ _ => cases h
          | yield h => exact ⟨_, rfl, .inl ⟨_, _, h⟩⟩
          | yieldD h => exact ⟨_, rfl, .inr h⟩
        obtain ⟨l', hfe, hl⟩ := hfr
        rw [mapL_eq] at hp'
        obtain ⟨lp, g1, g2, g3⟩ := hG.round l _ V v V' hp' B β w _ l' hB hW hAR hl
        obtain ⟨β', v', w', e1, e2, e3, e4⟩ := g3 (b.atR a (.inRegion ops (i :: rest) :: k)) cs
        have hrun : (execOp a.eval o).run P w = .ok (.round l' lp.fn ((lp.params.zip ⟨c.args.toList.map a.eval⟩).foldl (fun tmps (t, a) => tmps.setIfInBounds t a) lp.tmps) lp.assign lp.body) w := by
          rw [hexec, hfe, hA]
          have harr : (⟨[]⟩ ++ ⟨c.args.toList.map a.eval⟩ : Array Value) = ⟨c.args.toList.map a.eval⟩ := by apply Array.ext'; simp
          simp only [Deferred.ofValue, Sem.run_bind, Sem.run_pure, Result.andThen_ok, invoke, harr]
          exact run_yield g1 (by simpa using g2)
        refine ⟨β', v', w', e1, e2, e3, .head (stepR_round ho hw hd hrun) ?_⟩
        rw [← hfin]; exact e4
      · cases hp'
  · have hp' : plainGo P o (ev s.tm) V = .val v V' := by
      unfold opGo opGk at hp
      obtain ⟨dst, op, type, pos, after, guard⟩ := o
      cases op <;> first | exact hp | exact absurd ⟨_, rfl⟩ hcall
    refine hres (fun c hh => ?_) (plain_ok hW hρ hp')
    obtain ⟨dst, op, type, pos, after, guard⟩ := o
    simp only at hh
    subst hh
    cases hp'

/-- One operation of a region. -/
theorem one_ok {rec : Rec} (hG : Good P G rec) {E : Env} {o : Oper} {s s' : St} {x : X} {ops : Array Oper} (hp : oneGo rec P E ops.toList o s V = .fall x s') (hB : HB P G B) (hW : WR P B β V w) {a : Act}
    (hwant : wantGo ops.toList o s.tm = Region.wanted o (yielded ops a.tmps)) (hρ : ∀ x ∈ o.op.operands, VR β (ev s.tm x) (a.eval x))
    {b : Frame} {i : Nat} {rest : List Nat} {k : List Item} {cs : List Frame} (ho : ops[i]? = some o) :
    ∃ v V', putGo E o.dst v s V' = .fall x s' ∧ ∃ β' v' w', Ext β β' ∧ WR P B β' V' w' ∧ VR β' v v' ∧ Steps P (lone (b.atR a (.inRegion ops (i :: rest) :: k)) cs w) (lone (b.atR (a.put o.dst v') (.inRegion ops rest :: k)) cs w') := by
  unfold oneGo at hp
  cases hb : wantGo ops.toList o s.tm with
  | false =>
    rw [hb] at hp
    refine ⟨undef, V, hp, β, undef, w, .refl _, hW, .undef, .one ?_⟩
    have h := stepR_op_skip (P := P) (b := b) (a := a) (k := k) (cs := cs) (w := w) (ops := ops) (i := i) (rest := rest) (by rw [ho]; simp; rw [← hwant, hb])
    rw [ho] at h; exact h
  | true =>
    rw [hb] at hp
    change afterGo E o.dst s (opGo rec P E o s V) = _ at hp
    cases hop : opGo rec P E o s V with
    | val v V' =>
      rw [hop] at hp
      obtain ⟨β', v', w', h1, h2, h3, h4⟩ := op_ok hG hop hB hW hρ (b := b) (rest := rest) (k := k) (cs := cs) ho (by rw [← hwant, hb])
      exact ⟨v, V', hp, β', v', w', h1, h2, h3, h4⟩
    | fall y t => rw [hop] at hp; cases hp
    | bad m n => rw [hop] at hp; cases hp

theorem okOps_mem : ∀ {l : List Oper}, okOps P l = true → ∀ o ∈ l, okOp P o = true
  | [], _, _, h => by cases h
  | p :: l, h, o, ho => by
    simp only [okOps, Bool.and_eq_true] at h
    rcases List.mem_cons.1 ho with rfl | ho
    · exact h.1
    · exact okOps_mem h.2 o ho
theorem okOp_mem {o : Oper} (h : okOp P o = true) : ∀ x ∈ o.op.operands, okO P x = true := fun x hx => List.all_eq_true.1 h x (by simpa using hx)

theorem opsGo_cons {rec : Rec} {E : Env} {all : List Oper} (o : Oper) (l : List Oper) (s : St) : opsGo rec P E all (o :: l) s = thenOps (opsGo rec P E all l) (oneGo rec P E all o s s.V) := rfl
theorem thenOps_fall {K : St → R} {r : R} {x : X} {s' : St} (h : thenOps K r = .fall x s') : ∃ y s1, r = .fall y s1 ∧ K s1 = .fall x s' := by
  cases r with
  | fall y s1 => exact ⟨y, s1, rfl, h⟩
  | val v V => cases h
  | bad a b => cases h

/-- A region in its order. -/
theorem ops_ok {rec : Rec} (hG : Good P G rec) {E : Env} {ops : Array Oper} (hok : okOps P ops.toList = true) {b : Frame} {k : List Item} {cs : List Frame} (hB : HB P G B) :
    ∀ (l : List Oper) (j : Nat) (s s' : St) (x : X) (β : Nat → Ren) (a : Act) (w : World), l = ops.toList.drop j → opsGo rec P E ops.toList l s = .fall x s' → WR P B β s.V w → SR β E s a →
      x = .normal ∧ ∃ β' a' w', Ext β β' ∧ WR P B β' s'.V w' ∧ SR β' E s' a' ∧ Steps P (lone (b.atR a (.inRegion ops ((List.range ops.size).drop j) :: k)) cs w) (lone (b.atR a' k) cs w')
  | [], j, s, s', x, β, a, w, hl, hp, hW, hS => by
    cases hp
    have hj : ops.size ≤ j := by
      have := List.drop_eq_nil_iff.1 hl.symm; simpa using this
    refine ⟨rfl, β, a, w, .refl _, hW, hS, ?_⟩
    rw [List.drop_eq_nil_of_le (by simpa using hj)]
    exact .one stepR_region_end
  | o :: l, j, s, s', x, β, a, w, hl, hp, hW, hS => by
    rw [opsGo_cons] at hp
    obtain ⟨y, s1, h1, h2⟩ := thenOps_fall hp
    have hj : j < ops.size := by
      rcases Nat.lt_or_ge j ops.size with h | h
      · exact h
      · rw [List.drop_eq_nil_of_le (by simpa using h)] at hl; cases hl
    have hoj : ops[j]? = some o := by
      rw [← Array.getElem?_toList]
      have : (ops.toList.drop j)[0]? = some o := by rw [← hl]; rfl
      simpa using this
    have hl' : l = ops.toList.drop (j + 1) := by
      have : (ops.toList.drop j).tail = l := by rw [← hl]; rfl
      rw [← this]; simp
    have hmem : o ∈ ops.toList := by rw [← Array.getElem?_toList] at hoj; exact List.mem_of_getElem? hoj
    have hoko := okOps_mem hok o hmem
    have hρ : ∀ x ∈ o.op.operands, VR β (ev s.tm x) (a.eval x) := fun x hx => ev_ok hW hS.tm (okOp_mem hoko x hx)
    obtain ⟨v, V', hput, β1, v', w1, e1, e2, e3, e4⟩ := one_ok hG h1 hB hW (want_ok fun t _ _ _ _ => hS.tm.2 t) hρ (b := b) (rest := (List.range ops.size).drop (j + 1)) (k := k) (cs := cs) hoj
    obtain ⟨rfl, hV, _, _⟩ := put_ok hput
    obtain ⟨hx, β2, a2, w2, f1, f2, f3, f4⟩ := ops_ok hG hok hB l (j + 1) s1 s' x β1 (a.put o.dst v') w1 hl' h2 (by rw [hV]; exact e2) ((hS.mono e1).put hput e3)
    refine ⟨hx, β2, a2, w2, e1.trans f1, f2, f3, ?_⟩
    have hr : (List.range ops.size).drop j = j :: (List.range ops.size).drop (j + 1) := by
      rw [List.drop_eq_getElem_cons (by simpa using hj)]; simp
    rw [hr]
    exact e4.trans f4

theorem list_good {rec : Rec} (hG : Good P G rec) {ops : Array Oper} {E : Env} {s : St} (hok : okOps P ops.toList = true) {id : Nat} : CodeOk P G (listC ops rec P E s) [.code (.region id ops false)] E s := by
  intro x s' he B β a w b k cs hB hW hS hF
  obtain ⟨rfl, β', a', w', e1, e2, e3, e4⟩ := ops_ok hG hok (b := b) (k := k) (cs := cs) hB ops.toList 0 s s' x β a w rfl he hW hS
  exact ⟨β', a', w', e1, e2, e3, .head stepR_region e4⟩
end
end Go.Vx
