/-
  Says: Regions whose operations come in any order: what stands in order. Regions whose operations come in any order: the run in their own order.
-/
import Derived.Test.YtdnekeegpenioaaDoorVx9
set_option linter.unusedVariables false
set_option linter.unusedSimpArgs false
set_option linter.unusedSectionVars false
/-! Regions whose operations come in any order: what stands in order. -/
namespace Go.Vx
variable [Syms]
variable [Keeps]
open Go.RowKit

/-! ### What must have come before -/
theorem foldl_app {α β : Type} (g : List β → α → β) : ∀ (l : List α) (init : List β), ∃ t, l.foldl (fun acc o => acc ++ [g acc o]) init = init ++ t ∧ t.length = l.length
  | [], init => ⟨[], by simp, rfl⟩
  | o :: l, init => by
    obtain ⟨t, h1, h2⟩ := foldl_app g l (init ++ [g init o])
    exact ⟨g init o :: t, by simp [h1], by simp [h2]⟩

theorem ancs_snoc (l : List Oper) (o : Oper) : ancsL (l ++ [o]) = ancsL l ++ [ancOf (ancsL l) o] := by simp [ancsL]
theorem ancs_length (l : List Oper) : (ancsL l).length = l.length := by
  obtain ⟨t, h1, h2⟩ := foldl_app ancOf l []
  unfold ancsL; rw [h1]; simpa using h2
theorem ancs_prefix (l k : List Oper) : ∃ t, ancsL (l ++ k) = ancsL l ++ t := by
  unfold ancsL
  rw [List.foldl_append]
  obtain ⟨t, h1, _⟩ := foldl_app ancOf k (l.foldl (fun acc o => acc ++ [ancOf acc o]) [])
  exact ⟨t, h1⟩
theorem ancs_get (l : List Oper) (i : Nat) (h : i < l.length) : (ancsL l).getD i 0 = ancOf (ancsL (l.take i)) l[i] := by
  have hl : l = (l.take i ++ [l[i]]) ++ l.drop (i + 1) := by simp
  have h1 := ancs_prefix (l.take i ++ [l[i]]) (l.drop (i + 1))
  obtain ⟨t, ht⟩ := h1
  rw [← hl] at ht
  rw [ht, ancs_snoc]
  have hlen : (ancsL (l.take i)).length = i := by rw [ancs_length]; simp; omega
  simp [List.getD_eq_getElem?_getD, List.getElem?_append, hlen]
theorem ancs_take (l : List Oper) (i j : Nat) (h : j < i) : (ancsL (l.take i)).getD j 0 = (ancsL l).getD j 0 := by
  obtain ⟨t, ht⟩ := ancs_prefix (l.take i) (l.drop i)
  rw [List.take_append_drop] at ht
  rw [ht]
  by_cases hj : j < (ancsL (l.take i)).length
  · simp [List.getD_eq_getElem?_getD, List.getElem?_append, hj]
  · have hlen := ancs_length (l.take i)
    have hle : l.length ≤ j := by
      rw [hlen] at hj; simp at hj; omega
    have : l.drop i = [] := List.drop_eq_nil_of_le (by omega)
    rw [List.take_of_length_le (by omega)] at ht ⊢
    have ht0 : t = [] := by
      have := congrArg List.length ht; simp at this; exact this
    subst ht0; simp

theorem anc_fold (acc : List Nat) (j : Nat) : ∀ (es : List Edge) (s : Nat), (es.foldl (fun s e => if Region.binds .any e then s ||| 2 ^ e.on ||| acc.getD e.on 0 else s) s).testBit j = true →
    s.testBit j = true ∨ ∃ e ∈ es, Region.binds .any e = true ∧ (e.on = j ∨ (acc.getD e.on 0).testBit j = true)
  | [], s, h => .inl h
  | e :: es, s, h => by
    simp only [List.foldl_cons] at h
    rcases anc_fold acc j es _ h with h | ⟨e', h1, h2, h3⟩
    · split at h
      · rename_i hb
        simp only [Nat.testBit_or, Bool.or_eq_true] at h
        rcases h with (h | h) | h
        · exact .inl h
        · refine .inr ⟨e, by simp, hb, .inl ?_⟩
          rw [Nat.testBit_two_pow] at h
          simpa using h
        · exact .inr ⟨e, by simp, hb, .inr h⟩
      · exact .inl h
    · exact .inr ⟨e', by simp [h1], h2, h3⟩

/-- What has all that it stands on. -/
def Closed (l : List Oper) (D : Nat → Prop) : Prop := ∀ i (h : i < l.length), D i → ∀ e ∈ l[i].after, Region.binds .any e = true → D e.on
def ReadyD (l : List Oper) (D : Nat → Prop) (i : Nat) : Prop := ∃ h : i < l.length, ¬ D i ∧ ∀ e ∈ l[i].after, Region.binds .any e = true → D e.on

theorem anc_in {l : List Oper} (hord : ∀ i (h : i < l.length), ∀ e ∈ l[i].after, Region.binds .any e = true → e.on < i) {D : Nat → Prop} (hc : Closed l D) :
    ∀ (n i : Nat), i < n → ∀ (h : i < l.length) (j : Nat), bit (ancsL l) i j = true → (∀ e ∈ l[i].after, Region.binds .any e = true → D e.on) → D j := by
  intro n
  induction n with
  | zero => intro i hi; omega
  | succ n ih =>
    intro i hi h j hb hall
    unfold bit at hb
    rw [ancs_get l i h] at hb
    unfold ancOf at hb
    rcases anc_fold _ _ _ _ hb with h0 | ⟨e, h1, h2, h3⟩
    · simp at h0
    · have he : e ∈ l[i].after := by simpa using h1
      have hd := hall e he h2
      have hlt := hord i h e he h2
      rcases h3 with h3 | h3
      · rw [← h3]; exact hd
      · rw [ancs_take l i e.on hlt] at h3
        have hel : e.on < l.length := by omega
        exact ih e.on (by omega) hel j h3 (hc e.on hel hd)

/-- What the look found. -/
structure Drawn (P : Program) (l : List Oper) : Prop where
  ord : ∀ i (h : i < l.length), ∀ e ∈ l[i].after, Region.binds .any e = true → e.on < i
  tmp : ∀ j (hj : j < l.length) d, l[j].dst = some d → ∀ i (hi : i < l.length), i ≠ j → (d ∈ looksL l l[i] ∨ l[i].dst = some d) → ordB (ancsL l) i j = true
  five : ∀ i (hi : i < l.length), (clsL l)[i]? = some 5 → ∀ j (hj : j < l.length), i ≠ j → 2 ≤ clsOf l[j].op → ordB (ancsL l) i j = true ∨ (isLook l[j].op = true ∧ j < i)
  nolook : ∀ i (hi : i < l.length), (clsL l)[i]? = some 5 → isLook l[i].op = false
  four : ∀ i j, lenAt P l i = false → (clsL l)[i]? = some 4 → (clsL l)[j]? = some 3 → ordB (ancsL l) i j = true

theorem zipIdx_all {α : Type} {l : List α} {p : α × Nat → Bool} (h : l.zipIdx.all p = true) (i : Nat) (hi : i < l.length) : p (l[i], i) = true := by
  refine List.all_eq_true.1 h _ ?_
  rw [List.mem_iff_getElem]
  exact ⟨i, by simpa using hi, by simp⟩

theorem cls_get (l : List Oper) (i : Nat) (h : i < l.length) : (clsL l)[i]? = some (if clsOf l[i].op == 4 && !lookAt l i && (l.map fun o => clsOf o.op).zipIdx.all (fun (c', j) => Nat.blt c' 2 || i == j || ordB (ancsL l) i j || (lookAt l j && Nat.blt j i)) then 5 else clsOf l[i].op) := by
  unfold clsL
  rw [List.getElem?_map]
  have hz : ((l.map fun o => clsOf o.op).zipIdx)[i]? = some (clsOf l[i].op, i) := by rw [List.getElem?_zipIdx]; simp [h]
  rw [hz]
  rfl
theorem cls_length (l : List Oper) : (clsL l).length = l.length := by unfold clsL; simp

theorem drawn_of {P : Program} {l : List Oper} (h : drawOk P l = true) : Drawn P l := by
  unfold drawOk at h
  simp only [Bool.and_eq_true] at h
  obtain ⟨⟨h1, h2⟩, h3⟩ := h
  have hno : ∀ i (hi : i < l.length), (clsL l)[i]? = some 5 → clsOf l[i].op = 4 ∧ lookAt l i = false ∧ (l.map fun o => clsOf o.op).zipIdx.all (fun (c', j) => Nat.blt c' 2 || i == j || ordB (ancsL l) i j || (lookAt l j && Nat.blt j i)) = true := fun i hi hc => by
    rw [cls_get l i hi] at hc
    split at hc
    · rename_i hcond
      simp only [Bool.and_eq_true, beq_iff_eq, Bool.not_eq_true'] at hcond
      exact ⟨hcond.1.1, hcond.1.2, hcond.2⟩
    · have hc := Option.some.inj hc
      exfalso
      cases hq : l[i].op <;> simp [clsOf, hq] at hc
      all_goals (first | (split at hc <;> omega) | omega | skip)
  have hla : ∀ i (hi : i < l.length), lookAt l i = isLook l[i].op := fun i hi => by unfold lookAt; rw [List.getElem?_eq_getElem hi]
  refine ⟨fun i hi e he hb => ?_, fun j hj d hd i hi hne hlook => ?_, fun i hi hc j hj hne h2' => ?_, fun i hi hc => by rw [← hla i hi]; exact (hno i hi hc).2.1, fun i j hla4 hi hj => ?_⟩
  · have := zipIdx_all h1 i hi
    simp only at this
    have := List.all_eq_true.1 this e (by simpa using he)
    rw [hb] at this
    exact blt_lt (by simpa using this)
  · have := zipIdx_all h2 j hj
    simp only [hd] at this
    have := zipIdx_all this i hi
    simp only [Bool.or_eq_true, Bool.not_eq_true', beq_iff_eq] at this
    rcases this with (h | h) | h
    · exact absurd h hne
    · rcases hlook with hl | hl
      · simp [hl] at h
      · simp [hl] at h
    · exact h
  · have := zipIdx_all (hno i hi hc).2.2 j (by simpa using hj)
    simp only [List.getElem_map, Bool.or_eq_true, Bool.and_eq_true, beq_iff_eq] at this
    rcases this with ((h | h) | h) | ⟨h, h'⟩
    · exact absurd (blt_lt h) (by omega)
    · exact absurd h hne
    · exact .inl h
    · exact .inr ⟨by rw [← hla j hj]; exact h, blt_lt h'⟩
  · obtain ⟨hil, hi'⟩ := List.getElem?_eq_some_iff.1 hi
    obtain ⟨hjl, hj'⟩ := List.getElem?_eq_some_iff.1 hj
    have := zipIdx_all h3 i hil
    simp only [hi', show (!((4 : Nat) == 4)) = false from rfl, Bool.false_or, hla4] at this
    have := zipIdx_all this j hjl
    simpa [hj'] using this
end Go.Vx
/-! Regions whose operations come in any order: the run in their own order. -/
namespace Go.Vx
variable [Syms]
variable [Keeps]
open Go.RowKit

def cutR (N : Nat) (β : Nat → Ren) : Nat → Ren := fun x => if x < N then β x else .fresh
theorem cutR_lt {N : Nat} {β : Nat → Ren} {x : Nat} (h : x < N) : cutR N β x = β x := if_pos h
theorem cutR_ge {N : Nat} {β : Nat → Ren} {x : Nat} (h : N ≤ x) : cutR N β x = .fresh := if_neg (by omega)

section
variable {N : Nat} {β β0 : Nat → Ren}

theorem lt_of_live (hf : ∀ y, N ≤ y → β0 y = .fresh) {i : Nat} (h : β0 i ≠ .fresh) : i < N := by
  rcases Nat.lt_or_ge i N with h' | h'
  · exact h'
  · exact absurd (hf i h') h

theorem idx_ptr (hf : ∀ y, N ≤ y → β0 y = .fresh) {i o : Nat} {v : Value} (h : VR β0 (.pointer (some ⟨i, o, none⟩)) v) : i < N := by
  cases h with
  | atom h => simp [atom] at h
  | ptr e => exact lt_of_live hf (by rw [e]; nofun)
  | ptrD e => exact lt_of_live hf (by rw [e]; nofun)
theorem idx_sl (hf : ∀ y, N ≤ y → β0 y = .fresh) {i o n c : Nat} {v : Value} (h : VR β0 (.slice (some ⟨i, o, none⟩) n c) v) : i < N := by
  cases h with
  | atom h => simp [atom] at h
  | sl e _ _ => exact lt_of_live hf (by rw [e]; nofun)
  | slD e _ _ => exact lt_of_live hf (by rw [e]; nofun)
theorem idx_map (hf : ∀ y, N ≤ y → β0 y = .fresh) {i : Nat} {v : Value} (h : VR β0 (.map (some i)) v) : i < N := by
  cases h with
  | atom h => simp [atom] at h
  | map e => exact lt_of_live hf (by rw [e]; nofun)
  | mapD e => exact lt_of_live hf (by rw [e]; nofun)
theorem idx_yield (hf : ∀ y, N ≤ y → β0 y = .fresh) {i : Nat} {v : Value} (h : VR β0 (.func (.yield i) ⟨[]⟩ ⟨[]⟩) v) : i < N := by
  cases h with
  | atom h => simp [atom] at h
  | func h _ _ => cases h
  | yield e => exact lt_of_live hf (by rw [e]; nofun)
  | yieldD e => exact lt_of_live hf (by rw [e]; nofun)

mutual
theorem VR.cut (hf : ∀ y, N ≤ y → β0 y = .fresh) : ∀ {v v' v0 : Value}, VR β v v' → VR β0 v v0 → VR (cutR N β) v v'
  | _, _, _, .atom h, _ => .atom h
  | _, _, _, .ptr h, h0 => .ptr (by rw [cutR_lt (idx_ptr hf h0)]; exact h)
  | _, _, _, .ptrD h, h0 => .ptrD (by rw [cutR_lt (idx_ptr hf h0)]; exact h)
  | _, _, _, .sl h hn hc, h0 => .sl (by rw [cutR_lt (idx_sl hf h0)]; exact h) hn hc
  | _, _, _, .slD h hn hc, h0 => .slD (by rw [cutR_lt (idx_sl hf h0)]; exact h) hn hc
  | _, _, _, .map h, h0 => .map (by rw [cutR_lt (idx_map hf h0)]; exact h)
  | _, _, _, .mapD h, h0 => .mapD (by rw [cutR_lt (idx_map hf h0)]; exact h)
  | _, _, _, .yield h, h0 => .yield (by rw [cutR_lt (idx_yield hf h0)]; exact h)
  | _, _, _, .yieldD h, h0 => .yieldD (by rw [cutR_lt (idx_yield hf h0)]; exact h)
  | _, _, _, .func hn h1 h2, h0 => by
    cases h0 with
    | atom h =>
      rename_i fn f f' c c'
      cases f with
      | nil => cases c with
        | nil => cases h1; cases h2; exact .func hn .nil .nil
        | cons => cases fn <;> simp [atom] at h
      | cons => cases fn <;> simp [atom] at h
    | func _ g1 g2 => exact .func hn (VRs.cut hf h1 g1) (VRs.cut hf h2 g2)
    | yield _ => cases hn
    | yieldD _ => cases hn
  | _, _, _, .iface h, h0 => by
    cases h0 with
    | atom h => simp [atom] at h
    | iface g => exact .iface (VR.cut hf h g)
  | _, _, _, .agg h, h0 => by
    cases h0 with
    | atom h => simp [atom] at h
    | agg g => exact .agg (VRs.cut hf h g)
  | _, _, _, .tuple h, h0 => by
    cases h0 with
    | atom h => simp [atom] at h
    | tuple g => exact .tuple (VRs.cut hf h g)
  | _, _, _, .sym, _ => .sym
theorem VRs.cut (hf : ∀ y, N ≤ y → β0 y = .fresh) : ∀ {l l' l0 : List Value}, VRs β l l' → VRs β0 l l0 → VRs (cutR N β) l l'
  | _, _, _, .nil, _ => .nil
  | _, _, _, .cons h t, .cons h0 t0 => .cons (VR.cut hf h h0) (VRs.cut hf t t0)
end

theorem EsR.cut (hf : ∀ y, N ≤ y → β0 y = .fresh) : ∀ {l l' l0 : List MapEntry}, EsR β l l' → EsR β0 l l0 → EsR (cutR N β) l l'
  | _, _, _, .nil, _ => .nil
  | _, _, _, .cons hk hv t, .cons _ hv0 t0 => .cons hk (hv.cut hf hv0) (EsR.cut hf t t0)

theorem ObjR.cut {P : Program} {cp sh : Nat} {o : VObj} {o' : Obj} (h : ObjR P β cp sh o o') (hb : Bd P N o) : ObjR P (cutR N β) cp sh o o' := by
  obtain ⟨β0, cp0, sh0, o0, hf, h0⟩ := hb
  cases h with
  | cells hp hr hcap hfz => cases h0 with | cells _ hr0 _ _ => exact .cells hp (hr.cut hf hr0) hcap hfz
  | grow hn h =>
    cases h0 with
    | grow _ h0 =>
      refine .grow hn ?_
      cases h with
      | cells hp hr hcap hfz => cases h0 with | cells _ hr0 _ _ => exact .cells hp (hr.cut hf hr0) hcap hfz
  | map h => cases h0 with | map h0 => exact .map (h.cut hf h0)
  | iter h => exact .iter h
  | loop ht hk => cases h0 with | loop ht0 _ => exact .loop ⟨ht.1, fun t => (ht.2 t).cut hf (ht0.2 t)⟩ hk
  | dfr => exact .dfr
  | dfrT => exact .dfrT
end

/-! ### A higher floor -/
section
variable {P : Program} {G : VW} {B : Base} {β : Nat → Ren} {V : VW} {w : World}

def upV (V : VW) : VW := ⟨V.heap, V.size, V.size⟩
def upB (β : Nat → Ren) (V : VW) (w : World) : Base := ⟨w, upV V, β, w, fun _ => False⟩

theorem WR.up (h : WR P B β V w) : WR P (upB β V w) β (upV V) w :=
  ⟨h.glob, Nat.le_trans h.gfl h.gsz, Nat.le_refl _, h.tops, h.out, h.obj, h.dead, h.inj, fun i b cp sh e hi => absurd (h.lt e) (by have : V.size ≤ i := hi; omega), fun _ _ => rfl, rfl, fun _ _ => rfl, Nat.le_refl _, .refl _ _,
    fun _ hp => hp.elim, fun _ _ hf => ⟨hf, rfl⟩, h.bd⟩

theorem HB.up (hB : HB P G B) (h : WR P B β V w) : HB P G (upB β V w) := ⟨fun g hg => by
  rw [← hB.1 g hg]
  exact h.keep g (Nat.lt_of_lt_of_le hg h.gfl), Keeps.keep _ _ hB.2 h.base⟩

theorem WR.down (h : WR P B β V w) {β' : Nat → Ren} {V1 : VW} {w' : World} (h1 : WR P (upB β V w) β' V1 w') : WR P B β' ⟨V1.heap, V1.size, V.floor⟩ w' := by
  have hfl : V1.floor = V.size := h1.flo
  have hgr : V.size ≤ V1.size := h1.grow
  have hlow : ∀ i, i < V.size → β' i = β i := fun i hi => h1.low i (by rw [hfl]; exact hi)
  have hkeep : ∀ i, i < V.size → V1.heap.get i = V.heap.get i := fun i hi => h1.keep i (by rw [hfl]; exact hi)
  have hgsz := h.gsz
  refine ⟨h1.glob, h.gfl, Nat.le_trans h.gsz hgr, h1.tops, h1.out, h1.obj, h1.dead, h1.inj, ?_, ?_, h.flo, ?_, Nat.le_trans h.grow hgr, ?_, ?_, ?_, h1.bd⟩
  · intro i b cp sh e hi
    rcases Nat.lt_or_ge i V.size with hlt | hge
    · rw [hlow i hlt] at e; exact h.own i b cp sh e hi
    · have := (h1.own i b cp sh e (by rw [hfl]; exact hge)).1
      have hb : w.heap.size ≤ b := this
      exact ⟨Nat.le_trans h.base.size hb, fun hp => by have := (h.kept b hp).1; omega⟩
  · intro i hi
    have hi' : i < V.floor := hi
    show V1.heap.get i = _
    rw [hkeep i (by omega)]; exact h.keep i hi
  · intro i hi
    have hi' : i < V.floor := hi
    rw [hlow i (by omega)]; exact h.low i hi
  · exact h.base.trans (h1.base.mono h.base.size)
  · intro b hp
    obtain ⟨k1, k2⟩ := h.kept b hp
    exact ⟨Nat.lt_of_lt_of_le k1 h1.base.size, by rw [h1.base.block b k1]; exact k2⟩
  · intro i hi hf
    obtain ⟨k1, k2⟩ := h.frz i hi hf
    have := h.grow
    exact ⟨by rw [hlow i (by omega)]; exact k1, by show V1.heap.get i = _; rw [hkeep i (by omega)]; exact k2⟩

/-! ### The run in order -/
theorem one_put {rec : Rec} {E : Env} {all : List Oper} {o : Oper} {s s1 : St} {x : X} (hp : oneGo rec P E all o s V = .fall x s1) :
    ∃ v V', putGo E o.dst v s V' = .fall x s1 ∧ ((wantGo all o s.tm = true ∧ opGo rec P E o s V = .val v V') ∨ (wantGo all o s.tm = false ∧ v = undef ∧ V' = V)) := by
  unfold oneGo at hp
  cases hb : wantGo all o s.tm with
  | false => rw [hb] at hp; exact ⟨undef, V, hp, .inr ⟨rfl, rfl, rfl⟩⟩
  | true =>
    rw [hb] at hp
    change afterGo E o.dst s (opGo rec P E o s V) = _ at hp
    cases hop : opGo rec P E o s V with
    | val v V' => rw [hop] at hp; exact ⟨v, V', hp, .inl ⟨rfl, rfl⟩⟩
    | fall y t => rw [hop] at hp; cases hp
    | bad m n => rw [hop] at hp; cases hp

/-- A step of such a run: what is put, and the world behind. -/
theorem draw_put {rec : Rec} {E : Env} {all : List Oper} {o : Oper} {k : Nat} {s s1 : St} {x : X} (hp : oneDraw rec P E all o k s = .fall x s1) :
    x = .normal ∧ ∃ v V', s1.V = ⟨V'.heap, V'.size, if k = 3 ∨ k = 5 then V'.floor else s.V.floor⟩ ∧ s1.df = s.df ∧ ((o.dst = none ∧ s1.tm = s.tm) ∨ ∃ t, o.dst = some t ∧ t < E.nt ∧ t < top ∧ s1.tm = s.tm.set 21 t v) ∧
      ((wantGo all o s.tm = true ∧ opGo rec P E o s (if k = 3 ∨ k = 5 then s.V else upV s.V) = .val v V') ∨ (wantGo all o s.tm = false ∧ v = undef ∧ V' = (if k = 3 ∨ k = 5 then s.V else upV s.V))) := by
  unfold oneDraw at hp
  split at hp
  · rename_i hk
    have hk : k = 3 ∨ k = 5 := by simpa using hk
    obtain ⟨v, V', h1, h2⟩ := one_put hp
    obtain ⟨hx, hV, hdf, htm⟩ := put_ok h1
    simp only [if_pos hk]
    exact ⟨hx, v, V', by rw [hV], hdf, htm, h2⟩
  · rename_i hk
    have hk : ¬ (k = 3 ∨ k = 5) := fun hh => by rcases hh with rfl | rfl <;> simp at hk
    cases hone : oneGo rec P E all o s (floorUp s) with
    | val v V' => rw [hone] at hp; cases hp
    | bad m n => rw [hone] at hp; cases hp
    | fall y t =>
      rw [hone] at hp
      cases hp
      obtain ⟨v, V', h1, h2⟩ := one_put hone
      obtain ⟨hx, hV, hdf, htm⟩ := put_ok h1
      simp only [if_neg hk]
      exact ⟨hx, v, V', by rw [hV], hdf, htm, h2⟩

def apart1 (a : List Nat) (i : Nat) (f : Option (Nat × Bool)) (g : Nat × Option (Nat × Bool)) : Prop :=
  ∀ b s1 s2, f = some (b, s1) → g.2 = some (b, s2) → (s1 || s2) = true → bit a i g.1 = true
theorem apartF_spec {a : List Nat} {i : Nat} {f : Option (Nat × Bool)} {acc : List (Nat × Option (Nat × Bool))} (h : apartF a i f acc = true) : ∀ g ∈ acc, apart1 a i f g := by
  intro g hg b s1 s2 hf hgf hs
  subst hf
  have := List.all_eq_true.1 (h : (acc.all _) = true) g hg
  simp only [hgf, hs] at this
  simpa using this

theorem lkStep_fall {a : List Nat} {i k : Nat} {lk : List Lk} {E : Env} {r : R} {x : X} {s : St} (h : lkStep a i k lk E r = .fall x s) : r = .fall x s ∧ (k = 5 → ∀ e ∈ lk, bit a i e.1 = true ∨ e.2 s.V = true) := by
  unfold lkStep at h
  split at h
  · rename_i hk
    unfold lkR at h
    split at h
    · rename_i y s1
      split at h
      · rename_i ha
        cases h
        refine ⟨rfl, fun _ e he => ?_⟩
        unfold lkAll at ha
        rw [allL_eq] at ha
        simpa using List.all_eq_true.1 ha e he
      · cases h
    · cases h
    · cases h
  · rename_i hk
    exact ⟨h, fun h5 => by subst h5; simp at hk⟩
theorem addLk_mem {P : Program} {all : List Oper} {o : Oper} {i : Nat} {s s1 : St} {lk : List Lk} : (∀ e ∈ lk, e ∈ addLk P all o i s s1 lk) ∧ (isLook o.op = true → wantGo all o s.tm = true → (i, lkChk P o s s1) ∈ addLk P all o i s s1 lk) := by
  unfold addLk
  refine ⟨fun e he => ?_, fun h1 h2 => ?_⟩
  · split
    · split
      · exact List.mem_cons_of_mem _ he
      · exact he
    · exact he
  · rw [h1, h2]; exact List.mem_cons_self
theorem draw_run {rec : Rec} {E : Env} {all : List Oper} {a : List Nat} : ∀ (pl : List (Oper × Nat)) (i : Nat) (acc : List (Nat × Option (Nat × Bool))) (lk : List Lk) (s s' : St) (x : X), drawGo rec P E all a pl i acc lk s = .fall x s' →
    x = .normal ∧ ∃ S : Nat → St, S 0 = s ∧ S pl.length = s' ∧ ∀ j (h : j < pl.length), oneDraw rec P E all pl[j].1 pl[j].2 (S j) = .fall .normal (S (j + 1)) ∧
      (∀ g ∈ acc, apart1 a (i + j) (foot all pl[j].1 (S j).tm) g) ∧ (∀ t (ht : t < j), apart1 a (i + j) (foot all pl[j].1 (S j).tm) (i + t, foot all (pl[t]'(by omega)).1 (S t).tm)) ∧
      (pl[j].2 = 5 → ∀ e ∈ lk, bit a (i + j) e.1 = true ∨ e.2 (S (j + 1)).V = true) ∧
      ∀ t (ht : t < j), pl[j].2 = 5 → isLook (pl[t]'(by omega)).1.op = true → wantGo all (pl[t]'(by omega)).1 (S t).tm = true → bit a (i + j) (i + t) = true ∨ lkChk P (pl[t]'(by omega)).1 (S t) (S (t + 1)) (S (j + 1)).V = true
  | [], i, acc, lk, s, s', x, hp => by
    cases hp
    exact ⟨rfl, fun _ => s, rfl, rfl, fun j h => by simp at h⟩
  | o :: pl, i, acc, lk, s, s', x, hp => by
    change thenOps (fun s1 => drawGo rec P E all a pl (i + 1) ((i, foot all o.1 s.tm) :: acc) (addLk P all o.1 i s s1 lk) s1) (lkStep a i o.2 lk E (drawStep rec P E all a o.1 o.2 i acc s)) = _ at hp
    obtain ⟨y, s1, h0, h2⟩ := thenOps_fall hp
    obtain ⟨h1, hlk⟩ := lkStep_fall h0
    unfold drawStep at h1
    split at h1
    · rename_i hap
      obtain ⟨rfl, _⟩ := draw_put h1
      obtain ⟨hx, S, e1, e2, e3⟩ := draw_run pl (i + 1) _ _ s1 s' x h2
      refine ⟨hx, fun j => match j with | 0 => s | j + 1 => S j, rfl, e2, fun j h => ?_⟩
      cases j with
      | zero =>
        refine ⟨?_, apartF_spec hap, fun t ht => by omega, fun h5 e he => ?_, fun t ht => by omega⟩
        · show oneDraw rec P E all o.1 o.2 s = .fall .normal (S 0)
          rw [e1]; exact h1
        · show bit a (i + 0) e.1 = true ∨ e.2 (S 0).V = true
          rw [e1]; exact hlk h5 e he
      | succ j =>
        obtain ⟨f1, f2, f3, f4, f5⟩ := e3 j (by simpa using h)
        refine ⟨f1, fun g hg => ?_, fun t ht => ?_, fun h5 e he => ?_, fun t ht h5 hl hw => ?_⟩
        · have := f2 g (List.mem_cons_of_mem _ hg)
          rw [show i + (j + 1) = i + 1 + j from by omega]; exact this
        · cases t with
          | zero =>
            have := f2 (i, foot all o.1 s.tm) (by simp)
            rw [show i + (j + 1) = i + 1 + j from by omega]; exact this
          | succ t =>
            have := f3 t (by omega)
            rw [show i + (j + 1) = i + 1 + j from by omega, show i + (t + 1) = i + 1 + t from by omega]; exact this
        · have := f4 h5 e (addLk_mem.1 e he)
          rw [show i + (j + 1) = i + 1 + j from by omega]; exact this
        · cases t with
          | zero =>
            have := f4 h5 _ (addLk_mem.2 hl hw)
            rw [show i + (j + 1) = i + 1 + j from by omega]
            show bit a (i + 1 + j) i = true ∨ lkChk P o.1 s (S 0) _ = true
            rw [e1]; exact this
          | succ t =>
            have := f5 t (by omega) h5 hl hw
            rw [show i + (j + 1) = i + 1 + j from by omega, show i + (t + 1) = i + 1 + t from by omega]; exact this
    · cases h1
end
end Go.Vx
