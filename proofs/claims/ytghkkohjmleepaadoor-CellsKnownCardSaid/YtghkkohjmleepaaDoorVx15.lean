/-
  Says: Regions whose operations come in any order: one step of any order.
-/
import Derived.Test.YtghkkohjmleepaaDoorVx14
/-! Regions whose operations come in any order: one step of any order. -/
set_option linter.unusedVariables false
set_option linter.unusedSimpArgs false
namespace Go.Vx
open Go.RowKit

section
variable {P : Program} {β : Nat → Ren} {V : VW} {w : World}
/-- A load, a store of a block that is known. -/
theorem load_core {y off b cp sh : Nat} {ob : VObj} {o' : Obj} {t : TypeId} {u : Value} (hg : V.heap.get y = some ob) (hb : w.heap[b]? = some o') (ho : ObjR P β cp sh ob o') (hl : loadGo P t V (.pointer (some ⟨y, off, none⟩)) = some u) :
    ∃ u', (Instr.loadAt t (.pointer (some ⟨b, off + sh, none⟩))).run P w = .ok u' w ∧ VR β u u' := by
  have hl' : (match rowOf (V.heap.get y) with
    | some c => match lay P t with
      | some la => loadAt la off c
      | none => none
    | none => none) = some u := hl
  split at hl'
  · rename_i c hrow
    obtain ⟨e, fz, hg'⟩ := rowOf_spec hrow
    rw [hg] at hg'; cases hg'
    obtain ⟨pre, mid, post, fr, rfl, rfl, hr, _, _⟩ := ho.inv
    split at hl'
    · rename_i la hlay
      obtain ⟨n, g⟩ := la
      obtain ⟨i, d, hi, hd, rfl, rfl⟩ := lay_spec hlay
      rcases loadAt_spec hl' with ⟨hag, hle, rfl⟩ | ⟨hag, hu⟩
      · simp only at hag hle
        refine ⟨.agg ⟨(mid.drop off).take i.size⟩, ?_, .agg ((hr.drop off).take _)⟩
        have hll := row_load (P := P) hb off i.size (by rw [hr.length]; exact hle)
        simp [Instr.loadAt, Instr.sureAddr, loadVar, run_isAgg hd, hag, run_size hi, hll]
      · simp only at hag hu
        obtain ⟨u', h1, h2⟩ := hr.get? hu
        refine ⟨u', ?_, h2⟩
        have hc := row_cell hb off (j := 0) (v := u') (by rw [List.getElem?_drop]; exact h1)
        rw [addr_add] at hc
        simp only [Nat.add_zero] at hc
        simp [Instr.loadAt, Instr.sureAddr, loadVar, run_isAgg hd, hag, hc]
    · cases hl'
  · cases hl'

theorem store_core {off b cp sh : Nat} {c : List Value} {e : TypeId} {o' : Obj} {t : TypeId} {x x' : Value} (hb : w.heap[b]? = some o') (ho : ObjR P β cp sh (.cells c e false) o') (hx : VR β x x')
    (hle : off + (cellsL x).length ≤ c.length) (hsz : sizeA P t = some (cellsL x).length) (hone : (cellsL x).all Value.oneCell' = true) :
    ∃ o2, (Instr.storeAt t (.pointer (some ⟨b, off + sh, none⟩)) x').run P w = .ok () (w.putObj b o2) ∧ ObjR P β cp sh (.cells (splice c off (cellsL x)) e false) o2 := by
  obtain ⟨pre, mid, post, fr, rfl, rfl, hr, hcap, hfz⟩ := ho.inv
  have hfr := hfz rfl
  subst hfr
  have hl := hx.cellsL
  have hll : off + (cellsL x').length ≤ mid.length := by rw [hl.length, hr.length]; exact hle
  have hrun := run_storeCells_at P b (off + pre.length) e (cellsL x') 0 _ w hb (by simp; omega) (by
    have := hl.one hone
    simpa using this)
  simp only [Nat.add_zero] at hrun
  rw [putObj_setRow hb, splice_row _ _ _ _ _ hll] at hrun
  refine ⟨.cells ⟨pre ++ (splice mid off (cellsL x') ++ post)⟩ e (0, 0), ?_, ObjR.cells (pre := pre) (mid := splice mid off (cellsL x')) (post := post) rfl (hr.splice hl off) (by rw [splice_length _ _ _ hll]; exact hcap) (fun _ => rfl)⟩
  simp [Instr.storeAt, Instr.sureAddr, storeVar, run_sizeA hsz, cells_eq, hl.length, hrun]

/-- An operand, over a renaming alone. -/
theorem ev_any (hgl : ∀ g, g < P.globals.size → β g = .live g 0 0) {s : St} {a : Act} {x : Operand} (hx : okO P x = true) (ht : ∀ t, x = .tmp t → VR β (tget s.tm t) (a.tmps.getD t undef)) : VR β (ev s.tm x) (a.eval x) := by
  cases x with
  | tmp t => exact ht t rfl
  | const v => exact VR.flat hx
  | global g => exact VR.ptr (o := 0) (hgl g (blt_lt hx))
  | func f => exact .atom rfl
end

section
variable {P : Program} {G : VW} {rec : Rec} {E : Env} {ops : Array Oper} {S : Nat → St} {B : Base} {D : Nat → Prop} {β : Nat → Ren} {a : Act} {w : World}

theorem clsL_of {i : Nat} (h : i < ops.size) {k : Nat} (hk : (clsL ops.toList)[i]? = some k) : (k = clsOf ops[i].op ∧ k ≠ 5) ∨ (k = 5 ∧ clsOf ops[i].op = 4) := by
  rw [cls_get ops.toList i (by simpa using h)] at hk
  simp only [Array.getElem_toList] at hk
  split at hk
  · rename_i hc
    simp only [Bool.and_eq_true, beq_iff_eq] at hc
    exact .inr ⟨(Option.some.inj hk).symm, hc.1⟩
  · have hk := (Option.some.inj hk).symm
    refine .inl ⟨hk, fun h5 => ?_⟩
    rw [h5] at hk
    cases hq : ops[i].op <;> rw [hq] at hk <;> simp [clsOf, quiet] at hk

theorem foot_store {o : Oper} {tm : T Value} {x : Nat} {all : List Oper} (h : foot all o tm = some (x, true)) : clsOf o.op = 3 := by
  unfold foot at h
  split at h
  · unfold footOf at h
    split at h
    · rename_i hq; cases hbo : blockOf (ev tm _) <;> rw [hbo] at h <;> cases h
    · rename_i hq; rw [hq]; rfl
    · cases h
  · cases h

/-- What stands in order has been done just if it comes before. -/
theorem ord_settle (F : Facts P G rec E ops S B) (I : Inv P E ops S B D β a w) {i : Nat} (hr : ReadyD ops.toList D i) {j : Nat} (hj : j < ops.size) (hne : i ≠ j) (ho : ordB (ancsL ops.toList) i j = true) : D j ↔ j < i := by
  obtain ⟨hi, hDi, hall⟩ := hr
  have hn : ops.toList.length = ops.size := by simp
  unfold ordB at ho
  rcases Nat.lt_or_ge j i with h | h
  · rw [Nat.max_eq_left (by omega), Nat.min_eq_right (by omega)] at ho
    exact ⟨fun _ => h, fun _ => anc_in F.drawn.ord I.closed (i + 1) i (by omega) hi j ho hall⟩
  · rw [Nat.max_eq_right (by omega), Nat.min_eq_left (by omega)] at ho
    refine ⟨fun hD => ?_, fun h' => by omega⟩
    exact absurd (anc_in F.drawn.ord I.closed (j + 1) j (by omega) (by omega) i ho (I.closed j (by omega) hD)) hDi

theorem size_le (F : Facts P G rec E ops S B) : ∀ (j i : Nat), i ≤ j → j ≤ ops.size → (S i).V.size ≤ (S j).V.size := by
  intro j
  induction j with
  | zero => intro i hi _
            have : i = 0 := by omega
            subst this
            exact Nat.le_refl _
  | succ j ih =>
    intro i hi hj
    rcases Nat.lt_or_ge i (j + 1) with h | h
    · exact Nat.le_trans (ih i (by omega) (by omega)) (F.size j (by omega))
    · have : i = j + 1 := by omega
      subst this; exact Nat.le_refl _

theorem chain_le (F : Facts P G rec E ops S B) {x k : Nat} (hx : x < (S k).V.size) : ∀ (k' : Nat), k ≤ k' → k' ≤ ops.size → (∀ j, k ≤ j → j < k' → ¬ Wr ops S j x ∨ (S (j + 1)).V.heap.get x = (S j).V.heap.get x) → (S k').V.heap.get x = (S k).V.heap.get x := by
  intro k'
  induction k' with
  | zero => intro h _ _
            have : k = 0 := by omega
            subst this
            rfl
  | succ k' ih =>
    intro h hn hw
    rcases Nat.lt_or_ge k (k' + 1) with hlt | hge
    · rw [← ih (by omega) (by omega) fun j h1 h2 => hw j h1 (by omega)]
      rcases hw k' (by omega) (by omega) with h1 | h1
      · exact F.keep k' (by omega) x (Nat.lt_of_lt_of_le hx (size_le F k' k (by omega) (by omega))) h1
      · exact h1
    · have : k = k' + 1 := by omega
      subst this; rfl

theorem chain (F : Facts P G rec E ops S B) {x k k' : Nat} (hk : k ≤ ops.size) (hk' : k' ≤ ops.size) (h1 : Settled ops S D k x) (h2 : Settled ops S D k' x) (hx : x < (S k).V.size) (hx' : x < (S k').V.size) :
    (S k').V.heap.get x = (S k).V.heap.get x := by
  rcases Nat.le_total k k' with h | h
  · refine chain_le F hx k' h hk' fun j hj1 hj2 => .inl fun hw => ?_
    have a1 := h1 j (by omega) hw
    have a2 := h2 j (by omega) hw
    exact absurd (a1.1 (a2.2 hj2)) (by omega)
  · refine (chain_le F hx' k h hk fun j hj1 hj2 => .inl fun hw => ?_).symm
    have a1 := h1 j (by omega) hw
    have a2 := h2 j (by omega) hw
    exact absurd (a2.1 (a1.2 hj2)) (by omega)

theorem step_tm (F : Facts P G rec E ops S B) {i : Nat} (h : i < ops.size) {t : Nat} (hd : ops[i].dst ≠ some t) : tget (S (i + 1)).tm t = tget (S i).tm t := by
  obtain ⟨k, _, hone⟩ := F.run i h
  obtain ⟨_, v, V', _, _, htm, _⟩ := draw_put hone
  rcases htm with ⟨_, htm⟩ | ⟨t', hd', _, ht, htm⟩
  · rw [htm]
  · rw [htm, tget_set ht, if_neg (fun hh => hd (by rw [hd', hh]))]

/-- The temporaries behind a step. -/
theorem tmp_step (F : Facts P G rec E ops S B) (I : Inv P E ops S B D β a w) {i : Nat} (hr : ReadyD ops.toList D i) (hi : i < ops.size) {β' : Nat → Ren} (hx : Ext β β') {v v' : Value} (hv : VR β' v v')
    (hput : (ops[i].dst = none ∧ (S (i + 1)).tm = (S i).tm) ∨ ∃ t, ops[i].dst = some t ∧ t < E.nt ∧ t < top ∧ (S (i + 1)).tm = (S i).tm.set 21 t v) :
    ∀ t m, m ≤ ops.size → (∀ j (_ : j < ops.size) o, ops[j]? = some o → o.dst = some t → ((D j ∨ j = i) ↔ j < m)) → VR β' (tget (S m).tm t) ((a.put ops[i].dst v').tmps.getD t undef) := by
  intro t m hm hset
  have hoi : ops[i]? = some ops[i] := Array.getElem?_eq_getElem hi
  by_cases hd : ops[i].dst = some t
  · have him : i < m := (hset i hi _ hoi hd).1 (.inr rfl)
    rcases hput with ⟨hn, _⟩ | ⟨t', hd', hnt, htop, htm⟩
    · rw [hn] at hd; cases hd
    · rw [hd'] at hd; cases hd
      have hcon : ∀ k, i + 1 ≤ k → k ≤ m → tget (S k).tm t = v := by
        intro k
        induction k with
        | zero => intro h; omega
        | succ k ih =>
          intro h1 h2
          rcases Nat.lt_or_ge i k with h | h
          · have hkn : k < ops.size := by omega
            rw [step_tm F hkn, ih (by omega) (by omega)]
            intro hdk
            have hDk := (hset k hkn _ (Array.getElem?_eq_getElem hkn) hdk).2 (by omega)
            have hDk : D k := by rcases hDk with h' | h'; exact h'; omega
            have hord := F.drawn.tmp k (by simpa using hkn) t (by simpa using hdk) i (by simpa using hi) (by omega) (.inr (by simpa using hd'))
            have := (ord_settle F I hr hkn (by omega) hord).1 hDk
            omega
          · have : k = i := by omega
            subst this
            rw [htm, tget_set htop, if_pos rfl]
      rw [hcon m (by omega) (Nat.le_refl _), hd']
      show VR β' v ((a.tmps.setIfInBounds t v').getD t undef)
      rw [getD_set (by rw [I.size]; exact hnt), if_pos rfl]
      exact hv
  · have hold : VR β (tget (S m).tm t) (a.tmps.getD t undef) := I.tmp t m hm fun j hj o ho hdo => by
      have := hset j hj o ho hdo
      have hne : j ≠ i := fun hh => by subst hh; rw [hoi] at ho; cases ho; exact hd hdo
      constructor
      · intro h; exact this.1 (.inl h)
      · intro h; rcases this.2 h with h' | h'; exact h'; exact absurd h' hne
    have heq : (a.put ops[i].dst v').tmps.getD t undef = a.tmps.getD t undef := by
      rcases hput with ⟨hn, _⟩ | ⟨t', hd', hnt, _, _⟩
      · rw [hn]; rfl
      · rw [hd']
        show (a.tmps.setIfInBounds t' v').getD t undef = _
        rw [getD_set (by rw [I.size]; exact hnt), if_neg (fun hh => hd (by rw [hd', hh]))]
    rw [heq]
    exact hold.mono hx

theorem look_tmp (F : Facts P G rec E ops S B) (I : Inv P E ops S B D β a w) {i : Nat} (hr : ReadyD ops.toList D i) (hi : i < ops.size) {t : Nat} (ht : t ∈ looksL ops.toList ops[i]) : VR β (tget (S i).tm t) (a.tmps.getD t undef) := by
  refine I.tmp t i (by omega) fun j hj o ho hd => ?_
  by_cases hji : j = i
  · subst hji; exact ⟨fun h => absurd h hr.2.1, fun h => by omega⟩
  · have hoj : o = ops[j] := by rw [Array.getElem?_eq_getElem hj] at ho; exact (Option.some.inj ho).symm
    subst hoj
    exact ord_settle F I hr hj (fun h => hji h.symm) (F.drawn.tmp j (by simpa using hj) t (by simpa using hd) i (by simpa using hi) (fun h => hji h.symm) (.inl (by simpa using ht)))

theorem look_op (F : Facts P G rec E ops S B) (I : Inv P E ops S B D β a w) {i : Nat} (hr : ReadyD ops.toList D i) (hi : i < ops.size) : ∀ x ∈ ops[i].op.operands, VR β (ev (S i).tm x) (a.eval x) := by
  intro x hx
  have hok := okOp_mem (okOps_mem F.ok ops[i] (by simp)) x hx
  refine ev_any I.glob hok fun t ht => look_tmp F I hr hi ?_
  subst ht
  unfold looksL
  exact List.mem_append_left _ (List.mem_filterMap.2 ⟨.tmp t, by simpa using hx, rfl⟩)

theorem look_want (F : Facts P G rec E ops S B) (I : Inv P E ops S B D β a w) {i : Nat} (hr : ReadyD ops.toList D i) (hi : i < ops.size) : wantGo ops.toList ops[i] (S i).tm = Region.wanted ops[i] (yielded ops a.tmps) := by
  refine want_ok fun t j wn hg hd => look_tmp F I hr hi ?_
  unfold looksL guardT
  rw [hg]
  simp only [Option.map_some, Array.getElem?_toList, hd]
  simp

theorem closed_step (I : Inv P E ops S B D β a w) {i : Nat} (hr : ReadyD ops.toList D i) : Closed ops.toList (fun j => D j ∨ j = i) := by
  intro j hj hD e he hb
  rcases hD with hD | rfl
  · exact .inl (I.closed j hj hD e he hb)
  · exact .inl (hr.2.2 e he hb)

theorem settled_same {i k x : Nat} (h : Settled ops S D k x) (hn : ¬ Wr ops S i x) : Settled ops S (fun j => D j ∨ j = i) k x := by
  intro j hj hw
  have hne : j ≠ i := fun hh => by subst hh; exact hn hw
  have := h j hj hw
  constructor
  · rintro (h' | h'); exact this.1 h'; exact absurd h' hne
  · intro h'; exact .inl (this.2 h')
theorem settled_succ {i x : Nat} (hDi : ¬ D i) (h : Settled ops S D i x) : Settled ops S (fun j => D j ∨ j = i) (i + 1) x := by
  intro j hj hw
  have := h j hj hw
  constructor
  · rintro (h' | h')
    · have := this.1 h'; omega
    · omega
  · intro h'
    rcases Nat.lt_or_ge j i with h1 | h1
    · exact .inl (this.2 h1)
    · exact .inr (by omega)
end
end Go.Vx
