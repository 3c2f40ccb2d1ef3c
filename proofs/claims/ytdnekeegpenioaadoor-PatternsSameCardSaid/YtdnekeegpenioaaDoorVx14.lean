/-
  Says: Regions whose operations come in any order: the run in any order. Regions whose operations come in any order: one step of any order.
-/
import Derived.Test.YtdnekeegpenioaaDoorVx12
set_option linter.unusedVariables false
set_option linter.unusedSimpArgs false
set_option linter.unusedSectionVars false
/-! Regions whose operations come in any order: the run in any order. -/
namespace Go.Vx
variable [Syms]
variable [Keeps]
open Go.RowKit

section
variable {P : Program} {G : VW} {V : VW} {w : World}

/-- What is quiet looks at no memory. -/
theorem quiet_any {o : Oper} (hq : quiet o.op = true) {e : Rho} {v : Value} {V' : VW} (hp : plainGo P o e V = .val v V') : V' = V ∧ ∀ V2, plainGo P o e V2 = .val v V2 := by
  obtain ⟨dst, op, type, pos, after, guard⟩ := o
  have hof : ∀ {x : Option Value} {V' : VW}, ofV V x = .val v V' → V' = V ∧ ∀ V2, ofV V2 x = .val v V2 := fun {x V'} h => by
    obtain ⟨h1, h2⟩ := ofV_spec h
    exact ⟨h2, fun V2 => by rw [h1]; rfl⟩
  cases op <;> first | (cases hq; done) | skip
  case move x => cases hp; exact ⟨rfl, fun _ => rfl⟩
  case assign x => cases hp; exact ⟨rfl, fun _ => rfl⟩
  case pick c a b =>
    change pickO c a b P e V = _ at hp
    change V' = V ∧ ∀ V2, pickO c a b P e V2 = _
    unfold pickO at hp ⊢
    split at hp <;> cases hp <;> exact ⟨rfl, fun _ => rfl⟩
  case build t ps =>
    change buildO t ps P e V = _ at hp
    change V' = V ∧ ∀ V2, buildO t ps P e V2 = _
    unfold buildO at hp ⊢
    split at hp
    · split at hp
      · rename_i hall
        split at hp
        · cases hp; exact ⟨rfl, fun _ => by rw [if_pos hall]⟩
        · cases hp
      · cases hp
    · cases hp
  case nilCheck x =>
    change nilCheckO x P e V = _ at hp
    change V' = V ∧ ∀ V2, nilCheckO x P e V2 = _
    unfold nilCheckO at hp ⊢
    split at hp <;> cases hp <;> exact ⟨rfl, fun _ => rfl⟩
  case fieldAddr t x i =>
    change fieldAddrO t x i P e V = _ at hp
    change V' = V ∧ ∀ V2, fieldAddrO t x i P e V2 = _
    unfold fieldAddrO at hp ⊢
    split at hp
    · split at hp
      · split at hp
        · cases hp
        · cases hp; exact ⟨rfl, fun _ => rfl⟩
      · cases hp
    · cases hp
  case field t x i =>
    change fieldO t x i P e V = _ at hp
    change V' = V ∧ ∀ V2, fieldO t x i P e V2 = _
    unfold fieldO at hp ⊢
    split at hp
    · split at hp
      · exact hof hp
      · cases hp
    · cases hp
  case indexAddr t x i =>
    change indexAddrO t x i P e V = _ at hp
    change V' = V ∧ ∀ V2, indexAddrO t x i P e V2 = _
    unfold indexAddrO at hp ⊢
    split at hp
    · cases hp
    · split at hp
      · split at hp
        · split at hp
          · cases hp; exact ⟨rfl, fun _ => rfl⟩
          · cases hp
        · cases hp
      · split at hp
        · split at hp
          · split at hp
            · cases hp; exact ⟨rfl, fun _ => rfl⟩
            · cases hp
          · cases hp
        · cases hp
  case index t x i =>
    change indexO ⟨dst, .index t x i, type, pos, after, guard⟩ t x i P e V = _ at hp
    change V' = V ∧ ∀ V2, indexO ⟨dst, .index t x i, type, pos, after, guard⟩ t x i P e V2 = _
    unfold indexO at hp ⊢
    split at hp
    · split at hp
      · split at hp
        · rename_i hlt
          obtain ⟨h1, h2⟩ := hof hp
          exact ⟨h1, fun V2 => by rw [if_pos hlt]; exact h2 V2⟩
        · cases hp
      · cases hp
    · split at hp
      · rename_i hf
        obtain ⟨h1, h2⟩ := hof hp
        exact ⟨h1, fun V2 => by rw [if_pos hf]; exact h2 V2⟩
      · cases hp
  case extract x i =>
    change extractO x i P e V = _ at hp
    change V' = V ∧ ∀ V2, extractO x i P e V2 = _
    unfold extractO at hp ⊢
    split at hp
    · exact hof hp
    · cases hp
  case binOp op t x y yt =>
    change binO ⟨dst, .binOp op t x y yt, type, pos, after, guard⟩ op t x y P e V = _ at hp
    change V' = V ∧ ∀ V2, binO ⟨dst, .binOp op t x y yt, type, pos, after, guard⟩ op t x y P e V2 = _
    unfold binO at hp ⊢
    split at hp
    · cases hp; exact ⟨rfl, fun _ => rfl⟩
    · split at hp
      · cases hp; exact ⟨rfl, fun _ => rfl⟩
      · split at hp
        · cases hp; exact ⟨rfl, fun _ => rfl⟩
        · split at hp
          · rename_i hf
            obtain ⟨h1, h2⟩ := hof hp
            exact ⟨h1, fun V2 => by rw [if_pos hf]; exact h2 V2⟩
          · rename_i hf
            obtain ⟨h1, h2⟩ := hof hp
            exact ⟨h1, fun V2 => by rw [if_neg hf]; exact h2 V2⟩
  case unOp op t x =>
    change unO ⟨dst, .unOp op t x, type, pos, after, guard⟩ op x P e V = _ at hp
    change V' = V ∧ ∀ V2, unO ⟨dst, .unOp op t x, type, pos, after, guard⟩ op x P e V2 = _
    unfold unO at hp ⊢
    split at hp
    · split at hp
      · cases hp; exact ⟨rfl, fun _ => rfl⟩
      · cases hp
    · split at hp
      · rename_i hf
        obtain ⟨h1, h2⟩ := hof hp
        exact ⟨h1, fun V2 => by rw [if_pos hf]; exact h2 V2⟩
      · cases hp
  case convert s d x =>
    change convertO ⟨dst, .convert s d x, type, pos, after, guard⟩ s d x P e V = _ at hp
    change V' = V ∧ ∀ V2, convertO ⟨dst, .convert s d x, type, pos, after, guard⟩ s d x P e V2 = _
    unfold convertO at hp ⊢
    split at hp
    · cases hp; exact ⟨rfl, fun _ => rfl⟩
    · split at hp
      · rename_i hf
        obtain ⟨h1, h2⟩ := hof hp
        exact ⟨h1, fun V2 => by rw [if_pos hf]; exact h2 V2⟩
      · rename_i hf
        split at hp
        · obtain ⟨h1, h2⟩ := hof hp
          exact ⟨h1, fun V2 => by rw [if_neg hf]; exact h2 V2⟩
        · cases hp
  case makeFunc fn a b =>
    change makeFuncO fn a b P e V = _ at hp
    change V' = V ∧ ∀ V2, makeFuncO fn a b P e V2 = _
    unfold makeFuncO at hp ⊢
    split at hp
    · rename_i hn
      cases hp; exact ⟨rfl, fun _ => by rw [if_pos hn]⟩
    · cases hp

theorem opGo_plain {rec : Rec} {E : Env} {o : Oper} {s : St} (h : ∀ c, o.op ≠ .call c) (V : VW) : opGo rec P E o s V = plainGo P o (ev s.tm) V := by
  unfold opGo opGk
  obtain ⟨dst, op, type, pos, after, guard⟩ := o
  cases op <;> first | rfl | exact absurd rfl (h _)

/-- A heap of which nothing is known. -/
theorem blank (N : Nat) (hN : N ≤ top) : ∃ t : T VObj, ∀ x, (x < N → t.get x = some (.dfr true)) ∧ (N ≤ x → t.get x = none) := by
  induction N with
  | zero => exact ⟨.nil, fun x => ⟨fun h => by omega, fun _ => rfl⟩⟩
  | succ N ih =>
    obtain ⟨t, ht⟩ := ih (by omega)
    refine ⟨t.set 21 N (.dfr true), fun x => ?_⟩
    rw [T.get_put _ _ _ (by omega)]
    by_cases hx : x = N
    · subst hx; rw [if_pos rfl]; exact ⟨fun _ => rfl, fun h => by omega⟩
    · rw [if_neg hx]
      exact ⟨fun h => (ht x).1 (by omega), fun h => (ht x).2 (by omega)⟩

/-- What is quiet, over a renaming alone. -/
theorem quiet_ok {β : Nat → Ren} {N : Nat} (hN : N ≤ top) (hgl : ∀ g, g < P.globals.size → β g = .live g 0 0) (hgN : P.globals.size ≤ N) (hout : ∀ x, N ≤ x → β x = .fresh)
    (hlive : ∀ x b cp sh, β x = .live b cp sh → b < w.heap.size) (hinj : ∀ i j b cp sh cp' sh', β i = .live b cp sh → β j = .live b cp' sh' → i = j)
    {o : Oper} (hq : quiet o.op = true) {e ρ : Rho} (hρ : ∀ x ∈ o.op.operands, VR β (e x) (ρ x)) {v : Value} {V' : VW} (hp : plainGo P o e V = .val v V') :
    ∃ v' w', VR β v v' ∧ RunsTo P (execOp ρ o) w v' w' ∧ Below w.heap.size w w' := by
  obtain ⟨t, ht⟩ := blank N hN
  have hW : WR P ⟨w, ⟨t, N, N⟩, β, w, fun _ => False⟩ β ⟨t, N, N⟩ w := by
    refine ⟨hgl, hgN, Nat.le_refl _, hN, hout, ?_, ?_, hinj, ?_, fun _ _ => rfl, rfl, fun _ _ => rfl, Nat.le_refl _, .refl _ _, fun _ hp => hp.elim, fun _ _ hf => ⟨hf, rfl⟩, ?_⟩
    · intro i b cp sh he
      have hi : i < N := by
        rcases Nat.lt_or_ge i N with h | h
        · exact h
        · rw [hout i h] at he; cases he
      have hb := hlive i b cp sh he
      exact ⟨_, _, (ht i).1 hi, Array.getElem?_eq_getElem hb, .dfrT⟩
    · intro i he
      have hi : i < N := by
        rcases Nat.lt_or_ge i N with h | h
        · exact h
        · rw [hout i h] at he; cases he
      exact (ht i).1 hi
    · intro i b cp sh he hi
      have : N ≤ i := hi
      rw [hout i this] at he; cases he
    · intro i o ho
      rcases Nat.lt_or_ge i N with h | h
      · have := (ht i).1 h
        have ho' : t.get i = some o := ho
        rw [this] at ho'; cases ho'; exact .dead P _
      · have := (ht i).2 h
        have ho' : t.get i = some o := ho
        rw [this] at ho'; cases ho'
  have hp' := (quiet_any hq hp).2 ⟨t, N, N⟩
  obtain ⟨β', v', w', h1, h2, h3, h4⟩ := plain_ok hW hρ hp'
  have hlow : ∀ i, i < N → β' i = β i := h2.low
  have hout' : ∀ i, N ≤ i → β' i = .fresh := h2.out
  have heq : β' = β := by
    funext x
    rcases Nat.lt_or_ge x N with h | h
    · exact hlow x h
    · rw [hout' x h, hout x h]
  rw [heq] at h3
  exact ⟨v', w', h3, h4, h2.base⟩
end

section
variable {P : Program} {G : VW} {B : Base} {β : Nat → Ren} {V : VW} {w : World}
def reB (B : Base) (β : Nat → Ren) (V : VW) (w : World) : Base := ⟨B.w0, V, β, w, B.prot⟩
theorem WR.re (h : WR P B β V w) : WR P (reB B β V w) β V w :=
  ⟨h.glob, h.gfl, h.gsz, h.tops, h.out, h.obj, h.dead, h.inj, h.own, fun _ _ => rfl, rfl, fun _ _ => rfl, Nat.le_refl _, h.base, fun b hp => ⟨(h.kept b hp).1, rfl⟩, fun _ _ hf => ⟨hf, rfl⟩, h.bd⟩
theorem HB.re (hB : HB P G B) (h : WR P B β V w) : HB P G (reB B β V w) := ⟨fun g hg => by
  rw [← hB.1 g hg]; exact h.keep g (Nat.lt_of_lt_of_le hg h.gfl), hB.2⟩
theorem WR.back (h : WR P B β V w) {β' : Nat → Ren} {V' : VW} {w' : World} (h1 : WR P (reB B β V w) β' V' w') : WR P B β' V' w' := by
  have hfl : V'.floor = V.floor := h1.flo
  have hgr : V.size ≤ V'.size := h1.grow
  refine ⟨h1.glob, h1.gfl, h1.gsz, h1.tops, h1.out, h1.obj, h1.dead, h1.inj, h1.own, fun i hi => ?_, hfl.trans h.flo, fun i hi => ?_, Nat.le_trans h.grow hgr, h1.base, fun b hp => ?_, fun i hi hf => ?_, h1.bd⟩
  · exact (h1.keep i hi).trans (h.keep i (by rw [← hfl]; exact hi))
  · exact (h1.low i hi).trans (h.low i (by rw [← hfl]; exact hi))
  · exact ⟨(h1.kept b hp).1, (h1.kept b hp).2.trans (h.kept b hp).2⟩
  · obtain ⟨k1, k2⟩ := h.frz i hi hf
    obtain ⟨k3, k4⟩ := h1.frz i (Nat.lt_of_lt_of_le hi h.grow) k1
    exact ⟨k3, k4.trans k2⟩

theorem oneDraw_cases {rec : Rec} {E : Env} {all : List Oper} {o : Oper} {k : Nat} {s s1 : St} {x : X} (hp : oneDraw rec P E all o k s = .fall x s1) :
    ((k = 3 ∨ k = 5) ∧ oneGo rec P E all o s s.V = .fall x s1) ∨ (¬ (k = 3 ∨ k = 5) ∧ ∃ t, oneGo rec P E all o s (upV s.V) = .fall x t ∧ s1 = ⟨t.tm, ⟨t.V.heap, t.V.size, s.V.floor⟩, t.df⟩) := by
  unfold oneDraw at hp
  split at hp
  · rename_i hk
    exact .inl ⟨by simpa using hk, hp⟩
  · rename_i hk
    refine .inr ⟨fun hh => by rcases hh with rfl | rfl <;> simp at hk, ?_⟩
    cases hone : oneGo rec P E all o s (floorUp s) with
    | val v V' => rw [hone] at hp; cases hp
    | bad m n => rw [hone] at hp; cases hp
    | fall y t => rw [hone] at hp; cases hp; exact ⟨t, hone, rfl⟩

theorem cls_three {l : List Oper} {i : Nat} (h : i < l.length) (hc : (clsL l)[i]? = some 3) : clsOf l[i].op = 3 := by
  rw [cls_get l i h] at hc
  split at hc
  · cases hc
  · exact Option.some.inj hc
theorem clsOf_three {op : Op} (h : clsOf op = 3) : ∃ t a v, op = .store t a v := by
  cases op <;> first | exact ⟨_, _, _, rfl⟩ | (simp [clsOf, quiet] at h; done)

/-- The block that a store writes. -/
theorem store_foot {rec : Rec} {E : Env} {all : List Oper} {o : Oper} {t : TypeId} {a x : Operand} (ho : o.op = .store t a x) {s : St} {v : Value} {V' : VW} (hw : wantGo all o s.tm = true) (hop : opGo rec P E o s V = .val v V') :
    ∃ b off l ob c e, ev s.tm a = .pointer (some ⟨b, off, none⟩) ∧ foot all o s.tm = some (b, true) ∧ V.heap.get b = some ob ∧ ob ≠ .dfr true ∧ (∀ {β : Nat → Ren} {cp sh : Nat} {o' : Obj}, ObjR P β cp sh ob o' → ObjR P β cp sh (.cells c e false) o') ∧ V.floor ≤ b ∧ off + l.length ≤ c.length ∧ V' = V.put b (.cells (splice c off l) e false) ∧
      v = undef ∧ l = cellsL (ev s.tm x) ∧ sizeA P t = some l.length ∧ l.all Value.oneCell' = true := by
  rw [opGo_plain (fun c hh => by rw [ho] at hh; cases hh)] at hop
  have hop' : storeO t a x P (ev s.tm) V = .val v V' := by
    unfold plainGo opK at hop; rw [ho] at hop; exact hop
  obtain ⟨h1, rfl⟩ := optW_spec hop'
  unfold storeGo at h1
  split at h1
  · rename_i bo hbo
    obtain ⟨b, off⟩ := bo
    split at h1
    · rename_i n hn
      split at h1
      · rename_i hl
        have hl := Nat.eq_of_beq_eq_true hl
        rw [lenL_eq] at hl
        split at h1
        · rename_i hone
          rw [allL_eq] at hone
          obtain ⟨ob, c, e, hg, hne, hrel, hfl, hle, rfl⟩ := writeAt_spec (P := P) h1
          refine ⟨b, off, _, ob, c, e, blockOf_spec hbo, ?_, hg, hne, hrel, hfl, hle, rfl, rfl, rfl, by rw [hn, hl], hone⟩
          unfold foot; rw [hw, ho]; simp only [footOf, hbo]; rfl
        · cases h1
      · cases h1
    · cases h1
  · cases h1
end

/-! ### The relation in between -/
section
variable (P : Program) (G : VW) (rec : Rec) (E : Env) (ops : Array Oper) (S : Nat → St) (B : Base)

/-- The operation writes the block. -/
def Wr (j x : Nat) : Prop := ((clsL ops.toList)[j]? = some 5 ∧ (S 0).V.floor ≤ x ∧ x < (S j).V.size) ∨ ∃ o, ops[j]? = some o ∧ foot ops.toList o (S j).tm = some (x, true)
def Settled (D : Nat → Prop) (k x : Nat) : Prop := ∀ j, j < ops.size → Wr ops S j x → (D j ↔ j < k)

structure Inv (D : Nat → Prop) (β : Nat → Ren) (a : Act) (w : World) : Prop where
  closed : Closed ops.toList D
  size : a.tmps.size = E.nt
  tmp : ∀ t i, i ≤ ops.size → (∀ j (_ : j < ops.size) o, ops[j]? = some o → o.dst = some t → (D j ↔ j < i)) → VR β (tget (S i).tm t) (a.tmps.getD t undef)
  df : DR β (S 0).df a.defers
  glob : ∀ g, g < P.globals.size → β g = .live g 0 0
  vis : ∀ x, β x ≠ .fresh → x < (S 0).V.size ∨ ∃ j, D j ∧ j < ops.size ∧ (S j).V.size ≤ x ∧ x < (S (j + 1)).V.size
  mem : ∀ x b cp sh, β x = .live b cp sh → ∃ k, k ≤ ops.size ∧ Settled ops S D k x ∧ x < (S k).V.size ∧ ∃ o o', (S k).V.heap.get x = some o ∧ w.heap[b]? = some o' ∧ ObjR P β cp sh o o'
  dead : ∀ x, β x = .dead → ∃ k, k ≤ ops.size ∧ Settled ops S D k x ∧ x < (S k).V.size ∧ (S k).V.heap.get x = some (.dfr true)
  inj : ∀ i j b cp sh cp' sh', β i = .live b cp sh → β j = .live b cp' sh' → i = j
  own : ∀ i b cp sh, β i = .live b cp sh → (S 0).V.floor ≤ i → B.w0.heap.size ≤ b ∧ ¬ B.prot b
  low : ∀ i, i < (S 0).V.floor → β i = B.β0 i
  base : Below B.w0.heap.size B.w0 w
  kept : ∀ b, B.prot b → b < w.heap.size ∧ w.heap[b]? = B.w1.heap[b]?
  frz : ∀ i, i < B.V0.size → B.β0 i = .fresh → β i = .fresh
  frs : ∀ j, D j → (clsL ops.toList)[j]? = some 5 → ∀ x, x < (S j).V.size → β x = .fresh → (S (j + 1)).V.heap.get x = (S j).V.heap.get x
  wrd : ∀ j, D j → ∀ o x, ops[j]? = some o → foot ops.toList o (S j).tm = some (x, true) → β x ≠ .fresh

/-- What is known of the run in order. -/
structure Facts : Prop where
  run : ∀ i (h : i < ops.size), ∃ k, (clsL ops.toList)[i]? = some k ∧ oneDraw rec P E ops.toList ops[i] k (S i) = .fall .normal (S (i + 1))
  apart : ∀ i (h : i < ops.size), ∀ j (hj : j < i) b s1 s2, foot ops.toList ops[i] (S i).tm = some (b, s1) → foot ops.toList (ops[j]'(by omega)) (S j).tm = some (b, s2) → (s1 || s2) = true → bit (ancsL ops.toList) i j = true
  drawn : Drawn P ops.toList
  ok : okOps P ops.toList = true
  floor : ∀ i, i ≤ ops.size → (S i).V.floor = (S 0).V.floor
  df : ∀ i, i ≤ ops.size → (S i).df = (S 0).df
  size : ∀ i, i < ops.size → (S i).V.size ≤ (S (i + 1)).V.size
  top : ∀ i, i ≤ ops.size → (S i).V.size ≤ top
  gsz : (S 0).V.floor ≤ (S 0).V.size
  gfl : P.globals.size ≤ (S 0).V.floor
  keep : ∀ i, i < ops.size → ∀ x, x < (S i).V.size → ¬ Wr ops S i x → (S (i + 1)).V.heap.get x = (S i).V.heap.get x
  bd : ∀ i, i ≤ ops.size → ∀ x o, (S i).V.heap.get x = some o → Bd P (S i).V.size o
  tmps : ∀ i, i ≤ ops.size → ∀ t, ∃ β0 v0, (∀ y, (S i).V.size ≤ y → β0 y = .fresh) ∧ VR β0 (tget (S i).tm t) v0
  hb : ∀ g, g < P.globals.size → (S 0).V.heap.get g = G.heap.get g
  frz : ∀ i, i ≤ ops.size → ∀ x, x < B.V0.size → B.β0 x = .fresh → (S i).V.heap.get x = B.V0.heap.get x
  grow : B.V0.size ≤ (S 0).V.size
  keep0 : ∀ i, i ≤ ops.size → ∀ x, x < (S 0).V.floor → (S i).V.heap.get x = B.V0.heap.get x
  flo : (S 0).V.floor = B.V0.floor
  ki : Keeps.inv B.w0
  look : ∀ i (h : i < ops.size) j, i < j → j < ops.size → (clsL ops.toList)[j]? = some 5 → isLook ops[i].op = true → wantGo ops.toList ops[i] (S i).tm = true → bit (ancsL ops.toList) j i = true ∨ lkChk P ops[i] (S i) (S (i + 1)) (S (j + 1)).V = true
end

section
variable {P : Program} {G : VW} {rec : Rec} {E : Env} {ops : Array Oper} {S : Nat → St} {B : Base}

theorem facts_of (hG : Good P G rec) (hB : HB P G B) (hok : okOps P ops.toList = true) (hD : Drawn P ops.toList) {β : Nat → Ren} {a : Act} {w : World} (hW : WR P B β (S 0).V w) (hS : SR β E (S 0) a)
    (hrun : ∀ i (h : i < ops.size), ∃ k, (clsL ops.toList)[i]? = some k ∧ oneDraw rec P E ops.toList ops[i] k (S i) = .fall .normal (S (i + 1)))
    (hap : ∀ i (h : i < ops.size), ∀ j (hj : j < i) b s1 s2, foot ops.toList ops[i] (S i).tm = some (b, s1) → foot ops.toList (ops[j]'(by omega)) (S j).tm = some (b, s2) → (s1 || s2) = true → bit (ancsL ops.toList) i j = true)
    (hlk : ∀ i (h : i < ops.size) j, i < j → j < ops.size → (clsL ops.toList)[j]? = some 5 → isLook ops[i].op = true → wantGo ops.toList ops[i] (S i).tm = true → bit (ancsL ops.toList) j i = true ∨ lkChk P ops[i] (S i) (S (i + 1)) (S (j + 1)).V = true) :
    Facts P G rec E ops S B := by
  have step : ∀ i (h : i < ops.size), (∃ β a w, WR P B β (S i).V w ∧ SR β E (S i) a) → (∃ β a w, WR P B β (S (i + 1)).V w ∧ SR β E (S (i + 1)) a) ∧ (S (i + 1)).V.floor = (S i).V.floor ∧ (S (i + 1)).df = (S i).df ∧
      (S i).V.size ≤ (S (i + 1)).V.size ∧ ∀ x, x < (S i).V.size → ((S i).V.floor = (S 0).V.floor → ¬ Wr ops S i x) → (S i).V.floor = (S 0).V.floor → (S (i + 1)).V.heap.get x = (S i).V.heap.get x := by
    rintro i h ⟨β, a, w, hW, hS⟩
    obtain ⟨k, hk, hone⟩ := hrun i h
    have hoj : ops[i]? = some ops[i] := Array.getElem?_eq_getElem h
    have hmem : ops[i] ∈ ops.toList := by simp
    have hoko := okOps_mem hok _ hmem
    have hρ : ∀ x ∈ ops[i].op.operands, VR β (ev (S i).tm x) (a.eval x) := fun x hx => ev_ok hW hS.tm (okOp_mem hoko x hx)
    let b0 : Frame := { fn := 0, tmps := #[], todo := [], defers := [], mode := .run, kind := .normal }
    rcases oneDraw_cases hone with ⟨hk35, hgo⟩ | ⟨hk35, t, hgo, hs1⟩
    · obtain ⟨v, V', hput, β1, v', w1, e1, e2, e3, _⟩ := one_ok hG hgo (hB.re hW) hW.re (want_ok fun t _ _ _ _ => hS.tm.2 t) hρ (b := b0) (rest := []) (k := []) (cs := []) hoj
      obtain ⟨_, hV, hdf, _⟩ := put_ok hput
      have hback := hW.back e2
      refine ⟨⟨β1, a.put ops[i].dst v', w1, by rw [hV]; exact hback, (hS.mono e1).put hput e3⟩, by rw [hV]; exact e2.flo, hdf, by rw [hV]; exact e2.grow, fun x hx hnw hfl0 => ?_⟩
      have hnw := hnw hfl0
      rcases hk35 with rfl | rfl
      · have h3 := cls_three (by simpa using h) hk
        simp only [Array.getElem_toList] at h3
        obtain ⟨ty, ad, vv, hst⟩ := clsOf_three h3
        obtain ⟨v2, V2, hput2, hcase⟩ := one_put hgo
        obtain ⟨_, hV2, _, _⟩ := put_ok hput2
        rcases hcase with ⟨hw1, hop⟩ | ⟨hw1, _, hV3⟩
        · obtain ⟨bb, off, l, ob, c, e, _, hft, hg, _, _, hfl, hle, hVp, _⟩ := store_foot hst hw1 hop
          rw [hV2, hVp]
          have hbt : bb < top := by
            rcases Nat.lt_or_ge bb top with hh | hh
            · exact hh
            · exfalso
              obtain ⟨p, p', q1, _⟩ : ∃ p p' : Nat, True ∧ True := ⟨0, 0, trivial, trivial⟩
              have hx2 : x = x := rfl
              have := hW.tops
              -- a block beyond the heap's end is not there
              have hbd : bb < (S i).V.size := by
                rcases Nat.lt_or_ge bb (S i).V.size with h' | h'
                · exact h'
                · exfalso
                  have ha := hρ ad (by rw [hst]; simp [Op.operands])
                  obtain ⟨b', off', l', ob', c', e', hev, hft', hg', _⟩ := store_foot hst hw1 hop
                  rw [hft] at hft'
                  cases hft'
                  rw [hev] at ha
                  have := idx_ptr (N := (S i).V.size) hW.out ha
                  omega
              omega
          rw [VW.get_put hbt]
          have hxb : ¬ x = bb := fun hh => hnw (.inr ⟨ops[i], hoj, by rw [hft, hh]⟩)
          rw [if_neg hxb]
        · rw [hV2, hV3]
      · have hxf : x < (S i).V.floor := by
          rcases Nat.lt_or_ge x (S i).V.floor with hh | hh
          · exact hh
          · exact absurd (.inl ⟨hk, by rw [← hfl0]; exact hh, hx⟩) hnw
        rw [hV]
        have hfl1 : V'.floor = (S i).V.floor := e2.flo
        exact e2.keep x (by rw [hfl1]; exact hxf)
    · obtain ⟨v, V', hput, β1, v', w1, e1, e2, e3, _⟩ := one_ok hG hgo (hB.up hW) hW.up (want_ok fun t _ _ _ _ => hS.tm.2 t) hρ (b := b0) (rest := []) (k := []) (cs := []) hoj
      obtain ⟨_, hV, hdf, htm⟩ := put_ok hput
      have hSR := (hS.mono e1).put hput e3
      have hfl1 : V'.floor = (S i).V.size := e2.flo
      have hgr : (S i).V.size ≤ V'.size := e2.grow
      rw [hs1]
      refine ⟨⟨β1, a.put ops[i].dst v', w1, ?_, ⟨hSR.tm, hSR.df⟩⟩, rfl, hdf, by simp only [hV]; exact hgr, fun x hx _ _ => ?_⟩
      · simp only [hV]; exact hW.down e2
      · simp only [hV]; exact e2.keep x (by rw [hfl1]; exact hx)
  have all : ∀ i, i ≤ ops.size → (∃ β a w, WR P B β (S i).V w ∧ SR β E (S i) a) ∧ (S i).V.floor = (S 0).V.floor ∧ (S i).df = (S 0).df := by
    intro i
    induction i with
    | zero => exact fun _ => ⟨⟨β, a, w, hW, hS⟩, rfl, rfl⟩
    | succ i ih =>
      intro hi
      obtain ⟨h1, h2, h3⟩ := ih (by omega)
      obtain ⟨k1, k2, k3, _⟩ := step i (by omega) h1
      exact ⟨k1, k2.trans h2, k3.trans h3⟩
  refine ⟨hrun, hap, hD, hok, fun i hi => (all i hi).2.1, fun i hi => (all i hi).2.2, fun i hi => (step i hi (all i (by omega)).1).2.2.2.1, fun i hi => ?_, hW.gsz, hW.gfl, fun i hi x hx hn => ?_, fun i hi => ?_, fun i hi t => ?_, fun g hg => ?_, fun i hi x hx hf => ?_, hW.grow, fun i hi x hx => ?_, hW.flo, hB.2, hlk⟩
  · obtain ⟨_, _, _, h, _⟩ := (all i hi).1; exact h.tops
  · exact (step i hi (all i (by omega)).1).2.2.2.2 x hx (fun _ => hn) (all i (by omega)).2.1
  · obtain ⟨_, _, _, h, _⟩ := (all i hi).1; exact h.bd
  · obtain ⟨β1, a1, _, h, hs⟩ := (all i hi).1; exact ⟨β1, _, h.out, hs.tm.2 t⟩
  · rw [← hB.1 g hg]; exact hW.keep g (Nat.lt_of_lt_of_le hg hW.gfl)
  · obtain ⟨_, _, _, h, _⟩ := (all i hi).1; exact (h.frz x hx hf).2
  · obtain ⟨_, _, _, h, _⟩ := (all i hi).1; exact h.keep x (by rw [(all i hi).2.1]; exact hx)
end
end Go.Vx
/-! Regions whose operations come in any order: one step of any order. -/
namespace Go.Vx
variable [Syms]
variable [Keeps]
open Go.RowKit

theorem eqB_eq : ∀ {l m : List UInt8}, eqB l m = true → l = m
  | [], [], _ => rfl
  | [], _ :: _, h => by cases h
  | _ :: _, [], h => by cases h
  | x :: l, y :: m, h => by
    simp only [eqB, Bool.and_eq_true] at h
    rw [UInt8.toNat_inj.1 (Nat.eq_of_beq_eq_true h.1), eqB_eq h.2]
theorem eq1_eq {x y : Value} (h : eq1 x y = true) : x = y := by
  unfold eq1 at h
  split at h
  · simp only [Bool.and_eq_true] at h
    obtain ⟨h1, h2⟩ := h
    rw [eqI_eq] at h2
    rw [kindN_inj h1, eq_of_beq h2]
  · rw [eq_of_beq h]
  · rw [Nat.eq_of_beq_eq_true h]
  · simp only [Bool.and_eq_true] at h
    rw [Nat.eq_of_beq_eq_true h.1, Nat.eq_of_beq_eq_true h.2]
  · rename_i a b
    have := eqB_eq h
    obtain ⟨⟨a⟩⟩ := a
    obtain ⟨⟨b⟩⟩ := b
    simp only at this
    rw [this]
  · cases h
theorem eqL1_eq : ∀ {l m : List Value}, eqL1 l m = true → l = m
  | [], [], _ => rfl
  | [], _ :: _, h => by cases h
  | _ :: _, [], h => by cases h
  | x :: l, y :: m, h => by
    simp only [eqL1, Bool.and_eq_true] at h
    rw [eq1_eq h.1, eqL1_eq h.2]
theorem eqv_eq {x y : Value} (h : eqv x y = true) : x = y := by
  unfold eqv at h
  split at h
  · rename_i a
    split at h
    · rename_i b
      have := eqL1_eq h
      obtain ⟨a⟩ := a
      obtain ⟨b⟩ := b
      simp only at this
      rw [this]
    · cases h
  · exact eq1_eq h
  · exact eq1_eq h
  · exact eq1_eq h
  · exact eq1_eq h
  · exact eq1_eq h
  · cases h
theorem eqA_eq : ∀ {l m : List Value}, eqA l m = true → l = m
  | [], [], _ => rfl
  | [], _ :: _, h => by cases h
  | _ :: _, [], h => by cases h
  | x :: l, y :: m, h => by
    simp only [eqA, Bool.and_eq_true] at h
    rw [eqv_eq h.1, eqA_eq h.2]
theorem eqw_eq {x y : Value} (h : eqw x y = true) : x = y := by
  unfold eqw at h
  split at h
  · rename_i a
    split at h
    · rename_i b
      have := eqA_eq h
      obtain ⟨a⟩ := a
      obtain ⟨b⟩ := b
      simp only at this
      rw [this]
    · cases h
  · exact eqv_eq h

section
variable {P : Program} {β : Nat → Ren} {V : VW} {w : World}
/-- A load, a store of a block that is known. -/
theorem load_core {y off b cp sh : Nat} {ob : VObj} {o' : Obj} {t : TypeId} {u : Value} (hg : V.heap.get y = some ob) (hb : w.heap[b]? = some o') (ho : ObjR P β cp sh ob o') (hl : loadGo P t V (.pointer (some ⟨y, off, none⟩)) = some u) :
    ∃ u', (Instr.loadAt t (.pointer (some ⟨b, off + sh, none⟩))).run P w = .ok u' w ∧ VR β u u' := by
  have hl' : (match rowOf (V.heap.get y) with
    | some c => match lay P t with
      | some la => loadAt la off c
      | none => none
    | none => none) = some u := hl
  split at hl'
  · rename_i c hrow
    obtain ⟨ob', hg', hne, hrel⟩ := rowOf_rel (P := P) hrow
    rw [hg] at hg'; cases hg'
    obtain ⟨e, fz, ho⟩ := hrel ho
    obtain ⟨pre, mid, post, fr, rfl, rfl, hr, _, _⟩ := ho.inv
    split at hl'
    · rename_i la hlay
      obtain ⟨n, g⟩ := la
      obtain ⟨i, d, hi, hd, rfl, rfl⟩ := lay_spec hlay
      rcases loadAt_spec hl' with ⟨hag, hle, rfl⟩ | ⟨hag, hu⟩
      · simp only at hag hle
        refine ⟨.agg ⟨(mid.drop off).take i.size⟩, ?_, .agg ((hr.drop off).take _)⟩
        have hll := row_load (P := P) hb off i.size (by rw [hr.length]; exact hle)
        simp [Instr.loadAt, Instr.sureAddr, loadVar, run_isAgg hd, hag, run_size hi, hll]
      · simp only at hag hu
        obtain ⟨u', h1, h2⟩ := hr.get? hu
        refine ⟨u', ?_, h2⟩
        have hc := row_cell hb off (j := 0) (v := u') (by rw [List.getElem?_drop]; exact h1)
        rw [addr_add] at hc
        simp only [Nat.add_zero] at hc
        simp [Instr.loadAt, Instr.sureAddr, loadVar, run_isAgg hd, hag, hc]
    · cases hl'
  · cases hl'

theorem store_core {off b cp sh : Nat} {c : List Value} {e : TypeId} {o' : Obj} {t : TypeId} {x x' : Value} (hb : w.heap[b]? = some o') (ho : ObjR P β cp sh (.cells c e false) o') (hx : VR β x x')
    (hle : off + (cellsL x).length ≤ c.length) (hsz : sizeA P t = some (cellsL x).length) (hone : (cellsL x).all Value.oneCell' = true) :
    ∃ o2, (Instr.storeAt t (.pointer (some ⟨b, off + sh, none⟩)) x').run P w = .ok () (w.putObj b o2) ∧ ObjR P β cp sh (.cells (splice c off (cellsL x)) e false) o2 := by
  obtain ⟨pre, mid, post, fr, rfl, rfl, hr, hcap, hfz⟩ := ho.inv
  have hfr := hfz rfl
  subst hfr
  have hl := hx.cellsL
  have hll : off + (cellsL x').length ≤ mid.length := by rw [hl.length, hr.length]; exact hle
  have hrun := run_storeCells_at P b (off + pre.length) e (cellsL x') 0 _ w hb (by simp; omega) (by
    have := hl.one hone
    simpa using this)
  simp only [Nat.add_zero] at hrun
  rw [putObj_setRow hb, splice_row _ _ _ _ _ hll] at hrun
  refine ⟨.cells ⟨pre ++ (splice mid off (cellsL x') ++ post)⟩ e (0, 0), ?_, ObjR.cells (pre := pre) (mid := splice mid off (cellsL x')) (post := post) rfl (hr.splice hl off) (by rw [splice_length _ _ _ hll]; exact hcap) (fun _ => rfl)⟩
  simp [Instr.storeAt, Instr.sureAddr, storeVar, run_sizeA hsz, cells_eq, hl.length, hrun]

/-- An operand, over a renaming alone. -/
theorem ev_any (hgl : ∀ g, g < P.globals.size → β g = .live g 0 0) {s : St} {a : Act} {x : Operand} (hx : okO P x = true) (ht : ∀ t, x = .tmp t → VR β (tget s.tm t) (a.tmps.getD t undef)) : VR β (ev s.tm x) (a.eval x) := by
  cases x with
  | tmp t => exact ht t rfl
  | const v => exact VR.flat hx
  | global g => exact VR.ptr (o := 0) (hgl g (blt_lt hx))
  | func f => exact .atom rfl
end

section
variable {P : Program} {G : VW} {rec : Rec} {E : Env} {ops : Array Oper} {S : Nat → St} {B : Base} {D : Nat → Prop} {β : Nat → Ren} {a : Act} {w : World}

theorem clsL_of {i : Nat} (h : i < ops.size) {k : Nat} (hk : (clsL ops.toList)[i]? = some k) : (k = clsOf ops[i].op ∧ k ≠ 5) ∨ (k = 5 ∧ clsOf ops[i].op = 4) := by
  rw [cls_get ops.toList i (by simpa using h)] at hk
  simp only [Array.getElem_toList] at hk
  split at hk
  · rename_i hc
    simp only [Bool.and_eq_true, beq_iff_eq] at hc
    exact .inr ⟨(Option.some.inj hk).symm, hc.1.1⟩
  · have hk := (Option.some.inj hk).symm
    refine .inl ⟨hk, fun h5 => ?_⟩
    rw [h5] at hk
    cases hq : ops[i].op <;> rw [hq] at hk <;> simp [clsOf, quiet] at hk

theorem foot_store {o : Oper} {tm : T Value} {x : Nat} {all : List Oper} (h : foot all o tm = some (x, true)) : clsOf o.op = 3 := by
  unfold foot at h
  split at h
  · unfold footOf at h
    split at h
    · rename_i hq; cases hbo : blockOf (ev tm _) <;> rw [hbo] at h <;> cases h
    · rename_i hq; rw [hq]; rfl
    · cases h
  · cases h

/-- What stands in order has been done just if it comes before. -/
theorem ord_settle (F : Facts P G rec E ops S B) (I : Inv P E ops S B D β a w) {i : Nat} (hr : ReadyD ops.toList D i) {j : Nat} (hj : j < ops.size) (hne : i ≠ j) (ho : ordB (ancsL ops.toList) i j = true) : D j ↔ j < i := by
  obtain ⟨hi, hDi, hall⟩ := hr
  have hn : ops.toList.length = ops.size := by simp
  unfold ordB at ho
  rcases Nat.lt_or_ge j i with h | h
  · rw [Nat.max_eq_left (by omega), Nat.min_eq_right (by omega)] at ho
    exact ⟨fun _ => h, fun _ => anc_in F.drawn.ord I.closed (i + 1) i (by omega) hi j ho hall⟩
  · rw [Nat.max_eq_right (by omega), Nat.min_eq_left (by omega)] at ho
    refine ⟨fun hD => ?_, fun h' => by omega⟩
    exact absurd (anc_in F.drawn.ord I.closed (j + 1) j (by omega) (by omega) i ho (I.closed j (by omega) hD)) hDi

theorem size_le (F : Facts P G rec E ops S B) : ∀ (j i : Nat), i ≤ j → j ≤ ops.size → (S i).V.size ≤ (S j).V.size := by
  intro j
  induction j with
  | zero => intro i hi _
            have : i = 0 := by omega
            subst this
            exact Nat.le_refl _
  | succ j ih =>
    intro i hi hj
    rcases Nat.lt_or_ge i (j + 1) with h | h
    · exact Nat.le_trans (ih i (by omega) (by omega)) (F.size j (by omega))
    · have : i = j + 1 := by omega
      subst this; exact Nat.le_refl _

theorem chain_le (F : Facts P G rec E ops S B) {x k : Nat} (hx : x < (S k).V.size) : ∀ (k' : Nat), k ≤ k' → k' ≤ ops.size → (∀ j, k ≤ j → j < k' → ¬ Wr ops S j x ∨ (S (j + 1)).V.heap.get x = (S j).V.heap.get x) → (S k').V.heap.get x = (S k).V.heap.get x := by
  intro k'
  induction k' with
  | zero => intro h _ _
            have : k = 0 := by omega
            subst this
            rfl
  | succ k' ih =>
    intro h hn hw
    rcases Nat.lt_or_ge k (k' + 1) with hlt | hge
    · rw [← ih (by omega) (by omega) fun j h1 h2 => hw j h1 (by omega)]
      rcases hw k' (by omega) (by omega) with h1 | h1
      · exact F.keep k' (by omega) x (Nat.lt_of_lt_of_le hx (size_le F k' k (by omega) (by omega))) h1
      · exact h1
    · have : k = k' + 1 := by omega
      subst this; rfl

theorem chain (F : Facts P G rec E ops S B) {x k k' : Nat} (hk : k ≤ ops.size) (hk' : k' ≤ ops.size) (h1 : Settled ops S D k x) (h2 : Settled ops S D k' x) (hx : x < (S k).V.size) (hx' : x < (S k').V.size) :
    (S k').V.heap.get x = (S k).V.heap.get x := by
  rcases Nat.le_total k k' with h | h
  · refine chain_le F hx k' h hk' fun j hj1 hj2 => .inl fun hw => ?_
    have a1 := h1 j (by omega) hw
    have a2 := h2 j (by omega) hw
    exact absurd (a1.1 (a2.2 hj2)) (by omega)
  · refine (chain_le F hx' k h hk fun j hj1 hj2 => .inl fun hw => ?_).symm
    have a1 := h1 j (by omega) hw
    have a2 := h2 j (by omega) hw
    exact absurd (a2.1 (a1.2 hj2)) (by omega)

theorem step_tm (F : Facts P G rec E ops S B) {i : Nat} (h : i < ops.size) {t : Nat} (hd : ops[i].dst ≠ some t) : tget (S (i + 1)).tm t = tget (S i).tm t := by
  obtain ⟨k, _, hone⟩ := F.run i h
  obtain ⟨_, v, V', _, _, htm, _⟩ := draw_put hone
  rcases htm with ⟨_, htm⟩ | ⟨t', hd', _, ht, htm⟩
  · rw [htm]
  · rw [htm, tget_set ht, if_neg (fun hh => hd (by rw [hd', hh]))]

/-- The temporaries behind a step. -/
theorem tmp_step (F : Facts P G rec E ops S B) (I : Inv P E ops S B D β a w) {i : Nat} (hr : ReadyD ops.toList D i) (hi : i < ops.size) {β' : Nat → Ren} (hx : Ext β β') {v v' : Value} (hv : VR β' v v')
    (hput : (ops[i].dst = none ∧ (S (i + 1)).tm = (S i).tm) ∨ ∃ t, ops[i].dst = some t ∧ t < E.nt ∧ t < top ∧ (S (i + 1)).tm = (S i).tm.set 21 t v) :
    ∀ t m, m ≤ ops.size → (∀ j (_ : j < ops.size) o, ops[j]? = some o → o.dst = some t → ((D j ∨ j = i) ↔ j < m)) → VR β' (tget (S m).tm t) ((a.put ops[i].dst v').tmps.getD t undef) := by
  intro t m hm hset
  have hoi : ops[i]? = some ops[i] := Array.getElem?_eq_getElem hi
  by_cases hd : ops[i].dst = some t
  · have him : i < m := (hset i hi _ hoi hd).1 (.inr rfl)
    rcases hput with ⟨hn, _⟩ | ⟨t', hd', hnt, htop, htm⟩
    · rw [hn] at hd; cases hd
    · rw [hd'] at hd; cases hd
      have hcon : ∀ k, i + 1 ≤ k → k ≤ m → tget (S k).tm t = v := by
        intro k
        induction k with
        | zero => intro h; omega
        | succ k ih =>
          intro h1 h2
          rcases Nat.lt_or_ge i k with h | h
          · have hkn : k < ops.size := by omega
            rw [step_tm F hkn, ih (by omega) (by omega)]
            intro hdk
            have hDk := (hset k hkn _ (Array.getElem?_eq_getElem hkn) hdk).2 (by omega)
            have hDk : D k := by rcases hDk with h' | h'; exact h'; omega
            have hord := F.drawn.tmp k (by simpa using hkn) t (by simpa using hdk) i (by simpa using hi) (by omega) (.inr (by simpa using hd'))
            have := (ord_settle F I hr hkn (by omega) hord).1 hDk
            omega
          · have : k = i := by omega
            subst this
            rw [htm, tget_set htop, if_pos rfl]
      rw [hcon m (by omega) (Nat.le_refl _), hd']
      show VR β' v ((a.tmps.setIfInBounds t v').getD t undef)
      rw [getD_set (by rw [I.size]; exact hnt), if_pos rfl]
      exact hv
  · have hold : VR β (tget (S m).tm t) (a.tmps.getD t undef) := I.tmp t m hm fun j hj o ho hdo => by
      have := hset j hj o ho hdo
      have hne : j ≠ i := fun hh => by subst hh; rw [hoi] at ho; cases ho; exact hd hdo
      constructor
      · intro h; exact this.1 (.inl h)
      · intro h; rcases this.2 h with h' | h'; exact h'; exact absurd h' hne
    have heq : (a.put ops[i].dst v').tmps.getD t undef = a.tmps.getD t undef := by
      rcases hput with ⟨hn, _⟩ | ⟨t', hd', hnt, _, _⟩
      · rw [hn]; rfl
      · rw [hd']
        show (a.tmps.setIfInBounds t' v').getD t undef = _
        rw [getD_set (by rw [I.size]; exact hnt), if_neg (fun hh => hd (by rw [hd', hh]))]
    rw [heq]
    exact hold.mono hx

theorem look_tmp (F : Facts P G rec E ops S B) (I : Inv P E ops S B D β a w) {i : Nat} (hr : ReadyD ops.toList D i) (hi : i < ops.size) {t : Nat} (ht : t ∈ looksL ops.toList ops[i]) : VR β (tget (S i).tm t) (a.tmps.getD t undef) := by
  refine I.tmp t i (by omega) fun j hj o ho hd => ?_
  by_cases hji : j = i
  · subst hji; exact ⟨fun h => absurd h hr.2.1, fun h => by omega⟩
  · have hoj : o = ops[j] := by rw [Array.getElem?_eq_getElem hj] at ho; exact (Option.some.inj ho).symm
    subst hoj
    exact ord_settle F I hr hj (fun h => hji h.symm) (F.drawn.tmp j (by simpa using hj) t (by simpa using hd) i (by simpa using hi) (fun h => hji h.symm) (.inl (by simpa using ht)))

theorem look_op (F : Facts P G rec E ops S B) (I : Inv P E ops S B D β a w) {i : Nat} (hr : ReadyD ops.toList D i) (hi : i < ops.size) : ∀ x ∈ ops[i].op.operands, VR β (ev (S i).tm x) (a.eval x) := by
  intro x hx
  have hok := okOp_mem (okOps_mem F.ok ops[i] (by simp)) x hx
  refine ev_any I.glob hok fun t ht => look_tmp F I hr hi ?_
  subst ht
  unfold looksL
  exact List.mem_append_left _ (List.mem_filterMap.2 ⟨.tmp t, by simpa using hx, rfl⟩)

theorem look_want (F : Facts P G rec E ops S B) (I : Inv P E ops S B D β a w) {i : Nat} (hr : ReadyD ops.toList D i) (hi : i < ops.size) : wantGo ops.toList ops[i] (S i).tm = Region.wanted ops[i] (yielded ops a.tmps) := by
  refine want_ok fun t j wn hg hd => look_tmp F I hr hi ?_
  unfold looksL guardT
  rw [hg]
  simp only [Option.map_some, Array.getElem?_toList, hd]
  simp

theorem closed_step (I : Inv P E ops S B D β a w) {i : Nat} (hr : ReadyD ops.toList D i) : Closed ops.toList (fun j => D j ∨ j = i) := by
  intro j hj hD e he hb
  rcases hD with hD | rfl
  · exact .inl (I.closed j hj hD e he hb)
  · exact .inl (hr.2.2 e he hb)

theorem settled_same {i k x : Nat} (h : Settled ops S D k x) (hn : ¬ Wr ops S i x) : Settled ops S (fun j => D j ∨ j = i) k x := by
  intro j hj hw
  have hne : j ≠ i := fun hh => by subst hh; exact hn hw
  have := h j hj hw
  constructor
  · rintro (h' | h'); exact this.1 h'; exact absurd h' hne
  · intro h'; exact .inl (this.2 h')
theorem settled_succ {i x : Nat} (hDi : ¬ D i) (h : Settled ops S D i x) : Settled ops S (fun j => D j ∨ j = i) (i + 1) x := by
  intro j hj hw
  have := h j hj hw
  constructor
  · rintro (h' | h')
    · have := this.1 h'; omega
    · omega
  · intro h'
    rcases Nat.lt_or_ge j i with h1 | h1
    · exact .inl (this.2 h1)
    · exact .inr (by omega)
end
end Go.Vx
