/-
  Says: Regions whose operations come in any order: a step. Regions whose operations come in any order: a load, a store, a new variable, whatever else.
-/
import Derived.Test.YtdnekeegpenioaaDoorVx14
set_option linter.unusedVariables false
set_option linter.unusedSimpArgs false
set_option linter.unusedSectionVars false
/-! Regions whose operations come in any order: a step. -/
namespace Go.Vx
variable [Syms]
variable [Keeps]
open Go.RowKit

section
variable {P : Program} {G : VW} {rec : Rec} {E : Env} {ops : Array Oper} {S : Nat → St} {B : Base} {D : Nat → Prop} {β : Nat → Ren} {a : Act} {w : World}

theorem ordB_comm (a : List Nat) (i j : Nat) : ordB a i j = ordB a j i := by unfold ordB; rw [Nat.max_comm, Nat.min_comm]
theorem ordB_lt {a : List Nat} {i j : Nat} (h : j < i) : ordB a i j = bit a i j := by unfold ordB; rw [Nat.max_eq_left (by omega), Nat.min_eq_right (by omega)]

theorem Ext.back {β β' : Nat → Ren} (x : Ext β β') {i : Nat} (h : β' i = .fresh) : β i = .fresh := by
  cases hb : β i with
  | fresh => rfl
  | dead => have := x.2 i hb; rw [h] at this; cases this
  | live b cp sh => rcases x.1 i b cp sh hb with h' | h' <;> (rw [h] at h'; cases h')
theorem Ext.ne {β β' : Nat → Ren} (x : Ext β β') {i : Nat} (h : β i ≠ .fresh) : β' i ≠ .fresh := fun h' => h (x.back h')
theorem cut_ext (N : Nat) (β : Nat → Ren) : Ext (cutR N β) β := by
  refine ⟨fun j b cp sh e => ?_, fun j e => ?_⟩ <;> (rcases Nat.lt_or_ge j N with h | h) <;> first | (rw [cutR_lt h] at e; first | exact .inl e | exact e) | (rw [cutR_ge h] at e; cases e)

/-- A step, whatever it is. -/
theorem inv_step (F : Facts P G rec E ops S B) (I : Inv P E ops S B D β a w) {i : Nat} (hr : ReadyD ops.toList D i) (hi : i < ops.size) {β' : Nat → Ren} {w' : World} (hx : Ext β β') {v v' : Value} (hv : VR β' v v')
    (hput : (ops[i].dst = none ∧ (S (i + 1)).tm = (S i).tm) ∨ ∃ t, ops[i].dst = some t ∧ t < E.nt ∧ t < top ∧ (S (i + 1)).tm = (S i).tm.set 21 t v)
    (hlow : ∀ x, x < (S 0).V.floor → β' x = β x)
    (hvis : ∀ x, β' x ≠ .fresh → β x ≠ .fresh ∨ ((S i).V.size ≤ x ∧ x < (S (i + 1)).V.size))
    (hmem : ∀ x b cp sh, β' x = .live b cp sh → ∃ k, k ≤ ops.size ∧ Settled ops S (fun j => D j ∨ j = i) k x ∧ x < (S k).V.size ∧ ∃ o o', (S k).V.heap.get x = some o ∧ w'.heap[b]? = some o' ∧ ObjR P β' cp sh o o')
    (hdead : ∀ x, β' x = .dead → ∃ k, k ≤ ops.size ∧ Settled ops S (fun j => D j ∨ j = i) k x ∧ x < (S k).V.size ∧ (S k).V.heap.get x = some (.dfr true))
    (hinj : ∀ i j b cp sh cp' sh', β' i = .live b cp sh → β' j = .live b cp' sh' → i = j)
    (hown : ∀ i b cp sh, β' i = .live b cp sh → (S 0).V.floor ≤ i → B.w0.heap.size ≤ b ∧ ¬ B.prot b)
    (hbase : Below B.w0.heap.size B.w0 w')
    (hkept : ∀ b, B.prot b → b < w'.heap.size ∧ w'.heap[b]? = B.w1.heap[b]?)
    (hfrs : (clsL ops.toList)[i]? = some 5 → ∀ x, x < (S i).V.size → β' x = .fresh → (S (i + 1)).V.heap.get x = (S i).V.heap.get x)
    (hwrd : ∀ x, foot ops.toList ops[i] (S i).tm = some (x, true) → β' x ≠ .fresh) :
    Inv P E ops S B (fun j => D j ∨ j = i) β' (a.put ops[i].dst v') w' := by
  refine ⟨closed_step I hr, ?_, tmp_step F I hr hi hx hv hput, ?_, fun g hg => ?_, fun x h => ?_, hmem, hdead, hinj, hown, fun x h => (hlow x h).trans (I.low x h), hbase, hkept, fun x h1 h2 => ?_, ?_, ?_⟩
  · have : (a.put ops[i].dst v').tmps.size = a.tmps.size := by
      cases hd : ops[i].dst <;> simp [Act.put]
    rw [this]; exact I.size
  · have : (a.put ops[i].dst v').defers = a.defers := by
      cases hd : ops[i].dst <;> simp [Act.put]
    rw [this]; exact I.df.mono hx
  · rw [hlow g (Nat.lt_of_lt_of_le hg F.gfl)]; exact I.glob g hg
  · rcases hvis x h with h | h
    · rcases I.vis x h with h | ⟨j, h1, h2⟩
      · exact .inl h
      · exact .inr ⟨j, .inl h1, h2⟩
    · exact .inr ⟨i, .inr rfl, hi, h⟩
  · have hf := I.frz x h1 h2
    cases hb : β' x with
    | fresh => rfl
    | _ =>
      rcases hvis x (by rw [hb]; nofun) with h | h
      · exact absurd hf h
      · have := size_le F i 0 (by omega) (by omega)
        have := F.grow
        omega
  · rintro j (hD | rfl) h5 x hxs hfx
    · exact I.frs j hD h5 x hxs (hx.back hfx)
    · exact hfrs h5 x hxs hfx
  · rintro j (hD | rfl) o x ho hf
    · exact hx.ne (I.wrd j hD o x ho hf)
    · rw [Array.getElem?_eq_getElem hi] at ho
      cases ho
      exact hwrd x hf

/-- A step that writes nothing that is there. -/
theorem inv_same (F : Facts P G rec E ops S B) (I : Inv P E ops S B D β a w) {i : Nat} (hr : ReadyD ops.toList D i) (hi : i < ops.size) {w' : World} (hb : Below w.heap.size w w') {v v' : Value} (hv : VR β v v')
    (hput : (ops[i].dst = none ∧ (S (i + 1)).tm = (S i).tm) ∨ ∃ t, ops[i].dst = some t ∧ t < E.nt ∧ t < top ∧ (S (i + 1)).tm = (S i).tm.set 21 t v)
    (hm : ∀ x, β x ≠ .fresh → ¬ Wr ops S i x ∨ (x < (S i).V.size ∧ Settled ops S D i x ∧ (S (i + 1)).V.heap.get x = (S i).V.heap.get x))
    (hfrs : (clsL ops.toList)[i]? = some 5 → ∀ x, x < (S i).V.size → β x = .fresh → (S (i + 1)).V.heap.get x = (S i).V.heap.get x)
    (hwrd : ∀ x, foot ops.toList ops[i] (S i).tm = some (x, true) → β x ≠ .fresh) :
    Inv P E ops S B (fun j => D j ∨ j = i) β (a.put ops[i].dst v') w' := by
  have hmv : ∀ x, β x ≠ .fresh → ∀ k, k ≤ ops.size → Settled ops S D k x → x < (S k).V.size → ∃ k', k' ≤ ops.size ∧ Settled ops S (fun j => D j ∨ j = i) k' x ∧ x < (S k').V.size ∧ (S k').V.heap.get x = (S k).V.heap.get x := by
    intro x hx k hk hs hxs
    rcases hm x hx with h | ⟨h1, h2, h3⟩
    · exact ⟨k, hk, settled_same hs h, hxs, rfl⟩
    · exact ⟨i + 1, hi, settled_succ hr.2.1 h2, Nat.lt_of_lt_of_le h1 (F.size i hi), h3.trans (chain F hk (by omega) hs h2 hxs h1)⟩
  refine inv_step F I hr hi (.refl _) hv hput (fun _ _ => rfl) (fun _ h => .inl h) (fun x b cp sh he => ?_) (fun x he => ?_) I.inj I.own (I.base.trans (hb.mono I.base.size)) (fun b hp => ?_) hfrs hwrd
  · obtain ⟨k, h1, h2, h3, o, o', h4, h5, h6⟩ := I.mem x b cp sh he
    obtain ⟨k', g1, g2, g3, g4⟩ := hmv x (by rw [he]; nofun) k h1 h2 h3
    exact ⟨k', g1, g2, g3, o, o', g4.trans h4, by rw [hb.block b (block_lt h5)]; exact h5, h6⟩
  · obtain ⟨k, h1, h2, h3, h4⟩ := I.dead x he
    obtain ⟨k', g1, g2, g3, g4⟩ := hmv x (by rw [he]; nofun) k h1 h2 h3
    exact ⟨k', g1, g2, g3, g4.trans h4⟩
  · obtain ⟨h1, h2⟩ := I.kept b hp
    exact ⟨Nat.lt_of_lt_of_le h1 hb.size, by rw [hb.block b h1]; exact h2⟩

/-- What writes looks at memory. -/
theorem wr_cls {j x : Nat} (hj : j < ops.size) (h : Wr ops S j x) : ((clsL ops.toList)[j]? = some 5 ∧ clsOf ops[j].op = 4) ∨ (foot ops.toList ops[j] (S j).tm = some (x, true) ∧ clsOf ops[j].op = 3) := by
  rcases h with ⟨h, _⟩ | ⟨o, h1, h2⟩
  · rcases clsL_of hj h with ⟨h1, h2⟩ | ⟨_, h2⟩
    · exact absurd rfl h2
    · exact .inl ⟨h, h2⟩
  · rw [Array.getElem?_eq_getElem hj] at h1
    cases h1
    exact .inr ⟨h2, foot_store h2⟩

theorem wr_nolook (F : Facts P G rec E ops S B) {j x : Nat} (hj : j < ops.size) (h : Wr ops S j x) : isLook ops[j].op = false := by
  rcases wr_cls hj h with ⟨h, _⟩ | ⟨_, h⟩
  · have := F.drawn.nolook j (by simpa using hj) h
    simp only [Array.getElem_toList] at this
    exact this
  · cases hq : ops[j].op <;> first | rfl | (rw [hq] at h; simp [clsOf, quiet] at h)
theorem settled_five (F : Facts P G rec E ops S B) (I : Inv P E ops S B D β a w) {i : Nat} (hr : ReadyD ops.toList D i) (hi : i < ops.size) (h5 : (clsL ops.toList)[i]? = some 5) (x : Nat) : Settled ops S D i x := by
  intro j hj hw
  by_cases hij : i = j
  · subst hij; exact ⟨fun h => absurd h hr.2.1, fun h => by omega⟩
  · have h2 : 2 ≤ clsOf ops[j].op := by rcases wr_cls hj hw with ⟨_, h⟩ | ⟨_, h⟩ <;> omega
    rcases F.drawn.five i (by simpa using hi) h5 j (by simpa using hj) hij (by simpa using h2) with h | ⟨h, _⟩
    · exact ord_settle F I hr hj hij h
    · have := wr_nolook F hj hw
      simp only [Array.getElem_toList] at h
      rw [h] at this; cases this

theorem cls_of_three {j : Nat} (hj : j < ops.size) (h : clsOf ops[j].op = 3) : (clsL ops.toList)[j]? = some 3 := by
  rw [cls_get ops.toList j (by simpa using hj)]
  simp only [Array.getElem_toList, h]
  rfl

theorem lenAt_of {i : Nat} (hi : i < ops.size) (h : lenS P ops[i].op = false) : lenAt P ops.toList i = false := by
  unfold lenAt
  rw [List.getElem?_eq_getElem (by simpa using hi)]
  simpa using h

theorem settled_four (F : Facts P G rec E ops S B) (I : Inv P E ops S B D β a w) {i : Nat} (hr : ReadyD ops.toList D i) (hi : i < ops.size) (h4 : (clsL ops.toList)[i]? = some 4) (hl : isLook ops[i].op = false) (hll : lenS P ops[i].op = false) (x : Nat) : Settled ops S D i x := by
  intro j hj hw
  by_cases hij : i = j
  · subst hij; exact ⟨fun h => absurd h hr.2.1, fun h => by omega⟩
  · refine ord_settle F I hr hj hij ?_
    rcases wr_cls hj hw with ⟨h5, _⟩ | ⟨_, h3⟩
    · rw [ordB_comm]
      have h2 : 2 ≤ clsOf ops[i].op := by
        rcases clsL_of hi h4 with ⟨h, _⟩ | ⟨h, _⟩
        · omega
        · cases h
      rcases F.drawn.five j (by simpa using hj) h5 i (by simpa using hi) (fun h => hij h.symm) (by simpa using h2) with h | ⟨h, _⟩
      · exact h
      · simp only [Array.getElem_toList] at h
        rw [h] at hl; cases hl
    · exact F.drawn.four i j (lenAt_of hi hll) h4 (cls_of_three hj h3)

theorem settled_foot (F : Facts P G rec E ops S B) (I : Inv P E ops S B D β a w) {i : Nat} (hr : ReadyD ops.toList D i) (hi : i < ops.size) (hc : 2 ≤ clsOf ops[i].op) {x : Nat} {s : Bool} (hf : foot ops.toList ops[i] (S i).tm = some (x, s)) : Settled ops S D i x := by
  intro j hj hw
  by_cases hij : i = j
  · subst hij; exact ⟨fun h => absurd h hr.2.1, fun h => by omega⟩
  · refine ord_settle F I hr hj hij ?_
    rcases wr_cls hj hw with ⟨h5, _⟩ | ⟨hfj, _⟩
    · rw [ordB_comm]
      rcases F.drawn.five j (by simpa using hj) h5 i (by simpa using hi) (fun h => hij h.symm) (by simpa using hc) with h | ⟨h, _⟩
      · exact h
      · simp only [Array.getElem_toList] at h
        exfalso
        unfold foot at hf
        split at hf
        · unfold footOf at hf
          split at hf
          · rename_i hq; rw [hq] at h; cases h
          · rename_i hq; rw [hq] at h; cases h
          · cases hf
        · cases hf
    · rcases Nat.lt_or_ge j i with h | h
      · rw [ordB_lt h]; exact F.apart i hi j h x s true hf hfj (by simp)
      · rw [ordB_comm, ordB_lt (by omega)]; exact F.apart j hj i (by omega) x true s hfj hf (by simp)

theorem mem_at (F : Facts P G rec E ops S B) (I : Inv P E ops S B D β a w) {i : Nat} (hi : i ≤ ops.size) {x b cp sh : Nat} (he : β x = .live b cp sh) (hs : Settled ops S D i x) (hx : x < (S i).V.size) :
    ∃ o o', (S i).V.heap.get x = some o ∧ w.heap[b]? = some o' ∧ ObjR P β cp sh o o' := by
  obtain ⟨k, h1, h2, h3, o, o', h4, h5, h6⟩ := I.mem x b cp sh he
  exact ⟨o, o', (chain F h1 hi h2 hs h3 hx).trans h4, h5, h6⟩
theorem dead_at (F : Facts P G rec E ops S B) (I : Inv P E ops S B D β a w) {i : Nat} (hi : i ≤ ops.size) {x : Nat} (he : β x = .dead) (hs : Settled ops S D i x) (hx : x < (S i).V.size) : (S i).V.heap.get x = some (.dfr true) := by
  obtain ⟨k, h1, h2, h3, h4⟩ := I.dead x he
  exact (chain F h1 hi h2 hs h3 hx).trans h4

theorem look_cut (F : Facts P G rec E ops S B) (I : Inv P E ops S B D β a w) {i : Nat} (hr : ReadyD ops.toList D i) (hi : i < ops.size) : ∀ x ∈ ops[i].op.operands, VR (cutR (S i).V.size β) (ev (S i).tm x) (a.eval x) := by
  intro x hx
  have hok := okOp_mem (okOps_mem F.ok ops[i] (by simp)) x hx
  refine ev_any (fun g hg => ?_) hok fun t ht => ?_
  · have := size_le F i 0 (by omega) (by omega)
    have := F.gsz
    have := F.gfl
    rw [cutR_lt (by omega)]; exact I.glob g hg
  · obtain ⟨β0, v0, h1, h2⟩ := F.tmps i (by omega) t
    have := look_op F I hr hi x hx
    subst ht
    exact VR.cut h1 this h2

/-- Whatever is not wanted. -/
theorem skip_ok (F : Facts P G rec E ops S B) (I : Inv P E ops S B D β a w) {i : Nat} (hr : ReadyD ops.toList D i) (hi : i < ops.size)
    (hput : (ops[i].dst = none ∧ (S (i + 1)).tm = (S i).tm) ∨ ∃ t, ops[i].dst = some t ∧ t < E.nt ∧ t < top ∧ (S (i + 1)).tm = (S i).tm.set 21 t undef)
    (hw : wantGo ops.toList ops[i] (S i).tm = false) (hV : (S (i + 1)).V.heap = (S i).V.heap) : Inv P E ops S B (fun j => D j ∨ j = i) β (a.put ops[i].dst undef) w := by
  have hft : foot ops.toList ops[i] (S i).tm = none := by unfold foot; rw [hw]
  refine inv_same F I hr hi (.refl _ _) .undef hput (fun x hx => ?_) (fun _ x _ _ => by rw [hV]) (fun x h => by rw [hft] at h; cases h)
  by_cases hWr : Wr ops S i x
  · rcases wr_cls hi hWr with ⟨h5, _⟩ | ⟨h, _⟩
    · rcases hWr with ⟨_, h1, h2⟩ | ⟨o, h1, h2⟩
      · exact .inr ⟨h2, settled_five F I hr hi h5 x, by rw [hV]⟩
      · rw [Array.getElem?_eq_getElem hi] at h1; cases h1; rw [hft] at h2; cases h2
    · rw [hft] at h; cases h
  · exact .inl hWr

/-- What is quiet. -/
theorem quiet_step (F : Facts P G rec E ops S B) (I : Inv P E ops S B D β a w) {i : Nat} (hr : ReadyD ops.toList D i) (hi : i < ops.size) (hc : clsOf ops[i].op = 0) {v : Value} {V V' : VW}
    (hput : (ops[i].dst = none ∧ (S (i + 1)).tm = (S i).tm) ∨ ∃ t, ops[i].dst = some t ∧ t < E.nt ∧ t < top ∧ (S (i + 1)).tm = (S i).tm.set 21 t v)
    (hq : quiet ops[i].op = true) (hp : plainGo P ops[i] (ev (S i).tm) V = .val v V') :
    ∃ v' w', RunsTo P (execOp a.eval ops[i]) w v' w' ∧ Inv P E ops S B (fun j => D j ∨ j = i) β (a.put ops[i].dst v') w' := by
  have hN : P.globals.size ≤ (S i).V.size := by
    have := size_le F i 0 (by omega) (by omega)
    have := F.gsz
    have := F.gfl
    omega
  have hcut : ∀ x b cp sh, cutR (S i).V.size β x = .live b cp sh → β x = .live b cp sh := fun x b cp sh h => by
    rcases Nat.lt_or_ge x (S i).V.size with h' | h'
    · rw [cutR_lt h'] at h; exact h
    · rw [cutR_ge h'] at h; cases h
  obtain ⟨v', w', h1, h2, h3⟩ := quiet_ok (β := cutR (S i).V.size β) (N := (S i).V.size) (w := w) (F.top i (by omega)) (fun g hg => by rw [cutR_lt (by omega)]; exact I.glob g hg) hN (fun x hx => cutR_ge hx)
    (fun x b cp sh h => by obtain ⟨k, _, _, _, o, o', _, h5, _⟩ := I.mem x b cp sh (hcut _ _ _ _ h); exact block_lt h5)
    (fun x y b cp sh cp' sh' h1 h2 => I.inj x y b cp sh cp' sh' (hcut _ _ _ _ h1) (hcut _ _ _ _ h2)) hq (look_cut F I hr hi) hp
  have hnw : ∀ x, ¬ Wr ops S i x := fun x h => by rcases wr_cls hi h with ⟨_, h⟩ | ⟨_, h⟩ <;> omega
  refine ⟨v', w', h2, inv_same F I hr hi h3 (h1.mono (cut_ext _ _)) hput (fun x _ => .inl (hnw x)) (fun h5 => ?_) (fun x h => ?_)⟩
  · rcases clsL_of hi h5 with ⟨_, h⟩ | ⟨_, h⟩
    · exact absurd rfl h
    · omega
  · have := foot_store h; omega
end
end Go.Vx
/-! Regions whose operations come in any order: a load, a store, a new variable, whatever else. -/
namespace Go.Vx
variable [Syms]
variable [Keeps]
open Go.RowKit

section
variable {P : Program} {G : VW} {rec : Rec} {E : Env} {ops : Array Oper} {S : Nat → St} {B : Base} {D : Nat → Prop} {β : Nat → Ren} {a : Act} {w : World}

theorem no_wr {i : Nat} (hi : i < ops.size) (h3 : clsOf ops[i].op ≠ 3) (h4 : clsOf ops[i].op ≠ 4) (x : Nat) : ¬ Wr ops S i x := fun h => by
  rcases wr_cls hi h with ⟨_, h⟩ | ⟨_, h⟩
  · exact h4 h
  · exact h3 h
theorem no_five {i : Nat} (hi : i < ops.size) (h4 : clsOf ops[i].op ≠ 4) : (clsL ops.toList)[i]? ≠ some 5 := fun h5 => by
  rcases clsL_of hi h5 with ⟨_, h⟩ | ⟨_, h⟩
  · exact h rfl
  · exact h4 h
theorem no_store {i : Nat} (hi : i < ops.size) (h3 : clsOf ops[i].op ≠ 3) (x : Nat) : foot ops.toList ops[i] (S i).tm ≠ some (x, true) := fun h => h3 (foot_store h)

theorem size_glob (F : Facts P G rec E ops S B) {i : Nat} (hi : i ≤ ops.size) : P.globals.size ≤ (S i).V.size := by
  have := size_le F i 0 (by omega) hi
  have := F.gsz
  have := F.gfl
  omega

/-- The block of a pointer, at its place in the order. -/
theorem block_at (F : Facts P G rec E ops S B) (I : Inv P E ops S B D β a w) {i : Nat} (hr : ReadyD ops.toList D i) (hi : i < ops.size) (hc : 2 ≤ clsOf ops[i].op) {x : Operand} (hx : x ∈ ops[i].op.operands) {y off : Nat} {s : Bool}
    (hev : ev (S i).tm x = .pointer (some ⟨y, off, none⟩)) (hf : foot ops.toList ops[i] (S i).tm = some (y, s)) (hg : (S i).V.heap.get y ≠ some (.dfr true)) :
    ∃ b cp sh o o', a.eval x = .pointer (some ⟨b, off + sh, none⟩) ∧ β y = .live b cp sh ∧ y < (S i).V.size ∧ Settled ops S D i y ∧ (S i).V.heap.get y = some o ∧ w.heap[b]? = some o' ∧ ObjR P β cp sh o o' := by
  have hv := look_op F I hr hi x hx
  have hv' := look_cut F I hr hi x hx
  rw [hev] at hv hv'
  have hlt := idx_ptr (N := (S i).V.size) (fun y hy => cutR_ge hy) hv'
  have hs := settled_foot F I hr hi hc hf
  generalize a.eval x = z at hv ⊢
  cases hv with
  | atom h => simp [atom] at h
  | ptr e =>
    obtain ⟨o, o', h1, h2, h3⟩ := mem_at F I (Nat.le_of_lt hi) e hs hlt
    exact ⟨_, _, _, o, o', rfl, e, hlt, hs, h1, h2, h3⟩
  | ptrD e => exact absurd (dead_at F I (Nat.le_of_lt hi) e hs hlt) hg

theorem load_step (F : Facts P G rec E ops S B) (I : Inv P E ops S B D β a w) {i : Nat} (hr : ReadyD ops.toList D i) (hi : i < ops.size) {t : TypeId} {ad : Operand} (hop : ops[i].op = .load t ad) {v : Value}
    (hput : (ops[i].dst = none ∧ (S (i + 1)).tm = (S i).tm) ∨ ∃ t, ops[i].dst = some t ∧ t < E.nt ∧ t < top ∧ (S (i + 1)).tm = (S i).tm.set 21 t v)
    (hw : wantGo ops.toList ops[i] (S i).tm = true) {V' : VW} (hp : plainGo P ops[i] (ev (S i).tm) (upV (S i).V) = .val v V') :
    ∃ v', RunsTo P (execOp a.eval ops[i]) w v' w ∧ Inv P E ops S B (fun j => D j ∨ j = i) β (a.put ops[i].dst v') w := by
  have hc : clsOf ops[i].op = 2 := by rw [hop]; rfl
  have hp' : loadO t ad P (ev (S i).tm) (upV (S i).V) = .val v V' := by
    unfold plainGo opK at hp; rw [hop] at hp; exact hp
  obtain ⟨hl, _⟩ := ofV_spec (show ofV _ _ = _ from hp')
  have hl2 := hl
  unfold loadGo at hl
  split at hl
  · rename_i bo hbo
    have hev := blockOf_spec hbo
    split at hl
    · rename_i c hrow
      obtain ⟨ob, hg, hne, hrel⟩ := rowOf_rel (P := P) hrow
      have hg : (S i).V.heap.get bo.1 = some ob := hg
      have hf : foot ops.toList ops[i] (S i).tm = some (bo.1, false) := by
        unfold foot; rw [hw, hop]; simp only [footOf, hbo]; rfl
      obtain ⟨b, cp, sh, o, o', h1, h2, h3, h4, h5, h6, h7⟩ := block_at F I hr hi (by omega) (x := ad) (by rw [hop]; simp [Op.operands]) hev hf (by rw [hg]; exact fun hh => hne (Option.some.inj hh))
      rw [hev] at hl2
      obtain ⟨v', g1, g2⟩ := load_core (V := upV (S i).V) h5 h6 h7 hl2
      refine ⟨v', .inl ?_, inv_same F I hr hi (.refl _ _) g2 hput (fun x _ => .inl (no_wr hi (by omega) (by omega) x)) (fun h5 => absurd h5 (no_five hi (by omega))) (fun x h => absurd h (no_store hi (by omega) x))⟩
      have : execOp a.eval ops[i] = (do pure (Next.value (← Instr.loadAt t (a.eval ad))) : Sem Next) := by
        unfold execOp; rw [hop]
      rw [this, h1]
      exact run_v g1
    · cases hl
  · cases hl

theorem store_step (F : Facts P G rec E ops S B) (I : Inv P E ops S B D β a w) {i : Nat} (hr : ReadyD ops.toList D i) (hi : i < ops.size) (hc : clsOf ops[i].op = 3) {v : Value}
    (hput : (ops[i].dst = none ∧ (S (i + 1)).tm = (S i).tm) ∨ ∃ t, ops[i].dst = some t ∧ t < E.nt ∧ t < top ∧ (S (i + 1)).tm = (S i).tm.set 21 t v)
    (hw : wantGo ops.toList ops[i] (S i).tm = true) {V' : VW} (hp : opGo rec P E ops[i] (S i) (S i).V = .val v V') (hV : (S (i + 1)).V.heap = V'.heap) :
    ∃ v' w', RunsTo P (execOp a.eval ops[i]) w v' w' ∧ Inv P E ops S B (fun j => D j ∨ j = i) β (a.put ops[i].dst v') w' := by
  obtain ⟨t, ad, xv, hop⟩ := clsOf_three hc
  obtain ⟨y, off, l, ob, c, e, hev, hf, hg, hne, hrel, hfl, hle, rfl, rfl, rfl, hsz, hone⟩ := store_foot hop hw hp
  obtain ⟨b, cp, sh, o, o', h1, h2, h3, h4, h5, h6, h7⟩ := block_at F I hr hi (by omega) (x := ad) (by rw [hop]; simp [Op.operands]) hev hf (by rw [hg]; exact fun hh => hne (Option.some.inj hh))
  rw [hg] at h5
  cases h5
  replace h7 := hrel h7
  have hxv := look_op F I hr hi xv (by rw [hop]; simp [Op.operands])
  obtain ⟨o2, g1, g2⟩ := store_core h6 h7 hxv hle hsz hone
  have hyt : y < top := Nat.lt_of_lt_of_le h3 (F.top i (Nat.le_of_lt hi))
  have hfl0 : (S 0).V.floor ≤ y := by rw [← F.floor i (Nat.le_of_lt hi)]; exact hfl
  have hnw : ∀ x, x ≠ y → ¬ Wr ops S i x := fun x hx h => by
    rcases wr_cls hi h with ⟨_, h⟩ | ⟨h, _⟩
    · omega
    · rw [hf] at h; cases h; exact hx rfl
  refine ⟨undef, w.putObj b o2, .inr ⟨rfl, ?_⟩, inv_step F I hr hi (.refl _) .undef hput (fun _ _ => rfl) (fun _ h => .inl h) (fun x b' cp' sh' he => ?_) (fun x he => ?_) I.inj I.own
    (Below.putObj I.base (I.own _ _ _ _ h2 hfl0).1 _) (fun b' hb' => ?_) (fun h5 => absurd h5 (no_five hi (by omega))) (fun x h => ?_)⟩
  · have : execOp a.eval ops[i] = (do Instr.storeAt t (a.eval ad) (a.eval xv); pure Next.skip : Sem Next) := by
      unfold execOp; rw [hop]
    rw [this, h1]
    exact run_u g1
  · by_cases hx : x = y
    · subst hx
      rw [h2] at he; cases he
      exact ⟨i + 1, hi, settled_succ hr.2.1 h4, Nat.lt_of_lt_of_le h3 (F.size i hi), _, o2, by rw [hV, VW.get_put hyt, if_pos rfl], heap_put_same h6, g2⟩
    · obtain ⟨k, k1, k2, k3, p, p', k4, k5, k6⟩ := I.mem x b' cp' sh' he
      refine ⟨k, k1, settled_same k2 (hnw x hx), k3, p, p', k4, ?_, k6⟩
      rw [World.putObj_heap_other]; · exact k5
      intro hb; subst hb; exact hx (I.inj _ _ _ _ _ _ _ he h2)
  · have hx : x ≠ y := fun hh => by subst hh; rw [h2] at he; cases he
    obtain ⟨k, k1, k2, k3, k4⟩ := I.dead x he
    exact ⟨k, k1, settled_same k2 (hnw x hx), k3, k4⟩
  · obtain ⟨k1, k2⟩ := I.kept b' hb'
    have hne : b' ≠ b := fun hh => by subst hh; exact (I.own _ _ _ _ h2 hfl0).2 hb'
    exact ⟨by simpa using k1, by rw [World.putObj_heap_other hne]; exact k2⟩
  · rw [hf] at h; cases h; rw [h2]; nofun

/-- What the order makes later is not there yet. -/
theorem new_fresh (F : Facts P G rec E ops S B) (I : Inv P E ops S B D β a w) {i : Nat} (hDi : ¬ D i) (hi : i < ops.size) {x : Nat} (h1 : (S i).V.size ≤ x) (h2 : x < (S (i + 1)).V.size) : β x = .fresh := by
  cases hb : β x with
  | fresh => rfl
  | _ =>
    rcases I.vis x (by rw [hb]; nofun) with h | ⟨j, hD, hj, h3, h4⟩
    · have := size_le F i 0 (by omega) (by omega); omega
    · rcases Nat.lt_trichotomy j i with h | h | h
      · have := size_le F i (j + 1) (by omega) (by omega); omega
      · subst h; exact absurd hD hDi
      · have := size_le F j (i + 1) (by omega) (by omega); omega

theorem ev_bd (F : Facts P G rec E ops S B) {j : Nat} (hj : j < ops.size) {x : Operand} (hx : x ∈ ops[j].op.operands) : ∃ β0 v0, (∀ y, (S j).V.size ≤ y → β0 y = .fresh) ∧ VR β0 (ev (S j).tm x) v0 := by
  have hok := okOp_mem (okOps_mem F.ok ops[j] (by simp)) x hx
  cases x with
  | tmp t => exact F.tmps j (Nat.le_of_lt hj) t
  | const v => exact ⟨fun _ => .fresh, v, fun _ _ => rfl, VR.flat hok⟩
  | global g =>
    have hg : g < P.globals.size := blt_lt hok
    have := size_glob F (Nat.le_of_lt hj)
    exact ⟨cutR (S j).V.size fun y => .live y 0 0, _, fun y hy => cutR_ge hy, VR.ptr (o := 0) (by rw [cutR_lt (by omega)])⟩
  | func f => exact ⟨fun _ => .fresh, _, fun _ _ => rfl, .atom rfl⟩

theorem foot_lt (F : Facts P G rec E ops S B) {j : Nat} (hj : j < ops.size) {x : Nat} {s : Bool} (h : foot ops.toList ops[j] (S j).tm = some (x, s)) : x < (S j).V.size := by
  have key : ∀ ad, ad ∈ ops[j].op.operands → ∀ s', (blockOf (ev (S j).tm ad)).map (fun bo => (bo.1, s')) = some (x, s) → x < (S j).V.size := by
    intro ad hm s' hb
    cases hbo : blockOf (ev (S j).tm ad) with
    | none => rw [hbo] at hb; cases hb
    | some bo =>
      rw [hbo] at hb
      cases hb
      obtain ⟨β0, v0, h1, h2⟩ := ev_bd F hj hm
      rw [blockOf_spec hbo] at h2
      exact idx_ptr h1 h2
  unfold foot at h
  split at h
  · unfold footOf at h
    split at h
    · rename_i t ad hq; exact key ad (by rw [hq]; simp [Op.operands]) false h
    · rename_i t ad xv hq; exact key ad (by rw [hq]; simp [Op.operands]) true h
    · cases h
  · cases h

theorem wr_later (F : Facts P G rec E ops S B) {i j x : Nat} (hj : j < ops.size) (hx : (S i).V.size ≤ x) (hi : i < ops.size) (h : Wr ops S j x) : i < j := by
  rcases Nat.lt_or_ge i j with h' | h'
  · exact h'
  · have hs := size_le F i j h' (by omega)
    rcases h with ⟨_, _, h⟩ | ⟨o, h1, h2⟩
    · omega
    · rw [Array.getElem?_eq_getElem hj] at h1; cases h1
      have := foot_lt F hj h2; omega
end
end Go.Vx
