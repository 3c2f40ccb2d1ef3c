/-
  Says: The virtual heap and the real one.
-/
import Derived.Test.YtghkkohjmleepaaDoorVx1
import Derived.RangeFuncRecord
import Derived.Below
/-! The virtual heap and the real one. -/
set_option linter.unusedVariables false
set_option linter.unusedSimpArgs false
namespace Go.Vx
open Go.RowKit

structure Base where
  w0 : World
  V0 : VW
  β0 : Nat → Ren
  w1 : World
  prot : Nat → Prop

def sizeT (P : Program) (e : TypeId) : Nat := (sizeA P e).getD 0

def TR (β : Nat → Ren) (nt : Nat) (tm : T Value) (tmps : Array Value) : Prop :=
  tmps.size = nt ∧ ∀ t, VR β (tget tm t) (tmps.getD t undef)

inductive EsR (β : Nat → Ren) : List MapEntry → List MapEntry → Prop where
  | nil : EsR β [] []
  | cons {k v v' : Value} {n : Nat} {l l' : List MapEntry} (hk : flat k = true) (hv : VR β v v') (t : EsR β l l') : EsR β (⟨k, v, n⟩ :: l) (⟨k, v', n⟩ :: l')

inductive ObjR (P : Program) (β : Nat → Ren) (cp sh : Nat) : VObj → Obj → Prop where
  | cells {c : List Value} {e : TypeId} {fz : Bool} {pre mid post : List Value} {fr : Nat × Nat} (hp : pre.length = sh) (hr : VRs β c mid)
      (hcap : cp * sizeT P e ≤ mid.length + post.length) (hfz : fz = false → fr = (0, 0)) :
      ObjR P β cp sh (.cells c e fz) (.cells ⟨pre ++ (mid ++ post)⟩ e fr)
  | map {es es' : List MapEntry} {clock : Nat} (h : EsR β es es') : ObjR P β cp sh (.map es clock) (.map ⟨es'⟩ clock)
  | iter {s : ByteArray} {pos : Nat} (h0 : sh = 0) : ObjR P β cp sh (.iter s pos) (.stringIter s pos)
  | loop {st : LoopState} {pending : Option Code} {fn : FuncId} {nt : Nat} {tm : T Value} {tmps : Array Value} {ps : Array Tmp} {as b : Code} {d' : Nat}
      (ht : TR β nt tm tmps) (hk : okCode P as = true ∧ okCode P b = true ∧ ∀ c, pending = some c → okCode P c = true) : ObjR P β cp sh (.loop st pending fn nt tm ps as b) (.loop ⟨st, pending, fn, tmps, ps, as, b, d'⟩)
  | dfr : ObjR P β cp sh (.dfr false) (.deferred (some []))
  | dfrT {o : Obj} : ObjR P β cp sh (.dfr true) o

/-- It speaks of the blocks below N alone. -/
def Bd (P : Program) (N : Nat) (o : VObj) : Prop := ∃ β cp sh o', (∀ y, N ≤ y → β y = .fresh) ∧ ObjR P β cp sh o o'
theorem Bd.dead (P : Program) (N : Nat) : Bd P N (.dfr true) := ⟨fun _ => .fresh, 0, 0, .deferred none, fun _ _ => rfl, .dfrT⟩
theorem Bd.mono {P : Program} {N M : Nat} {o : VObj} (h : N ≤ M) : Bd P N o → Bd P M o
  | ⟨β, cp, sh, o', h1, h2⟩ => ⟨β, cp, sh, o', fun y hy => h1 y (Nat.le_trans h hy), h2⟩

structure WR (P : Program) (B : Base) (β : Nat → Ren) (V : VW) (w : World) : Prop where
  glob : ∀ g, g < P.globals.size → β g = .live g 0 0
  gfl : P.globals.size ≤ V.floor
  gsz : V.floor ≤ V.size
  tops : V.size ≤ top
  out : ∀ i, V.size ≤ i → β i = .fresh
  obj : ∀ i b cp sh, β i = .live b cp sh → ∃ o o', V.heap.get i = some o ∧ w.heap[b]? = some o' ∧ ObjR P β cp sh o o'
  dead : ∀ i, β i = .dead → V.heap.get i = some (.dfr true)
  inj : ∀ i j b cp sh cp' sh', β i = .live b cp sh → β j = .live b cp' sh' → i = j
  own : ∀ i b cp sh, β i = .live b cp sh → V.floor ≤ i → B.w0.heap.size ≤ b ∧ ¬ B.prot b
  keep : ∀ i, i < V.floor → V.heap.get i = B.V0.heap.get i
  flo : V.floor = B.V0.floor
  low : ∀ i, i < V.floor → β i = B.β0 i
  grow : B.V0.size ≤ V.size
  base : Below B.w0.heap.size B.w0 w
  kept : ∀ b, B.prot b → b < w.heap.size ∧ w.heap[b]? = B.w1.heap[b]?
  frz : ∀ i, i < B.V0.size → B.β0 i = .fresh → β i = .fresh ∧ V.heap.get i = B.V0.heap.get i
  bd : ∀ i o, V.heap.get i = some o → Bd P V.size o

theorem TR.mono {β β' : Nat → Ren} (x : Ext β β') {nt : Nat} {tm : T Value} {tmps : Array Value} (h : TR β nt tm tmps) : TR β' nt tm tmps :=
  ⟨h.1, fun t => (h.2 t).mono x⟩
theorem EsR.mono {β β' : Nat → Ren} (x : Ext β β') : ∀ {l l' : List MapEntry}, EsR β l l' → EsR β' l l'
  | _, _, .nil => .nil
  | _, _, .cons hk hv t => .cons hk (hv.mono x) (t.mono x)

theorem ObjR.mono {P : Program} {β β' : Nat → Ren} (x : Ext β β') {cp sh : Nat} {o : VObj} {o' : Obj} (h : ObjR P β cp sh o o') : ObjR P β' cp sh o o' := by
  cases h with
  | cells hp hr hcap hfz => exact .cells hp (hr.mono x) hcap hfz
  | map h => exact .map (h.mono x)
  | iter h0 => exact .iter h0
  | loop ht hk => exact .loop (ht.mono x) hk
  | dfr => exact .dfr
  | dfrT => exact .dfrT

def upd (β : Nat → Ren) (i : Nat) (r : Ren) : Nat → Ren := fun j => if j = i then r else β j
theorem upd_same (β : Nat → Ren) (i : Nat) (r : Ren) : upd β i r i = r := if_pos rfl
theorem upd_ne (β : Nat → Ren) {i j : Nat} (r : Ren) (h : j ≠ i) : upd β i r j = β j := if_neg h

theorem Ext.fresh {β : Nat → Ren} {i : Nat} (h : β i = .fresh) (r : Ren) : Ext β (upd β i r) := by
  refine ⟨fun j b cp sh e => ?_, fun j e => ?_⟩
  · by_cases hj : j = i
    · subst hj; rw [h] at e; cases e
    · rw [upd_ne _ _ hj]; exact .inl e
  · by_cases hj : j = i
    · subst hj; rw [h] at e; cases e
    · rw [upd_ne _ _ hj]; exact e
theorem Ext.kill (β : Nat → Ren) (i : Nat) : Ext β (upd β i .dead) := by
  refine ⟨fun j b cp sh e => ?_, fun j e => ?_⟩
  · by_cases hj : j = i
    · subst hj; exact .inr (upd_same _ _ _)
    · rw [upd_ne _ _ hj]; exact .inl e
  · by_cases hj : j = i
    · subst hj; exact upd_same _ _ _
    · rw [upd_ne _ _ hj]; exact e

theorem VW.get_push {V : VW} (h : V.size < top) (o : VObj) (j : Nat) : (V.push o).heap.get j = if j = V.size then some o else V.heap.get j := T.get_put _ _ _ h
theorem VW.get_put {V : VW} {b : Nat} (h : b < top) (o : VObj) (j : Nat) : (V.put b o).heap.get j = if j = b then some o else V.heap.get j := T.get_put _ _ _ h
theorem VW.size_push (V : VW) (o : VObj) : (V.push o).size = V.size + 1 := rfl
theorem VW.floor_push (V : VW) (o : VObj) : (V.push o).floor = V.floor := rfl
theorem VW.size_put (V : VW) (b : Nat) (o : VObj) : (V.put b o).size = V.size := rfl
theorem VW.floor_put (V : VW) (b : Nat) (o : VObj) : (V.put b o).floor = V.floor := rfl

section
variable {P : Program} {B : Base} {β : Nat → Ren} {V : VW} {w : World}

theorem WR.lt (h : WR P B β V w) {i b cp sh : Nat} (e : β i = .live b cp sh) : i < V.size := by
  rcases Nat.lt_or_ge i V.size with l | l
  · exact l
  · rw [h.out i l] at e; cases e
theorem WR.ltD (h : WR P B β V w) {i : Nat} (e : β i = .dead) : i < V.size := by
  rcases Nat.lt_or_ge i V.size with l | l
  · exact l
  · rw [h.out i l] at e; cases e

theorem block_lt {w : World} {b : Nat} {o : Obj} (h : w.heap[b]? = some o) : b < w.heap.size := (Array.getElem?_eq_some_iff.1 h).1

/-- A new block. -/
theorem WR.alloc (h : WR P B β V w) (hs : V.size < top) (cp sh : Nat) {o : VObj} {o' : Obj} (ho : ObjR P β cp sh o o') :
    WR P B (upd β V.size (.live w.heap.size cp sh)) (V.push o) (w.alloc o') ∧ Ext β (upd β V.size (.live w.heap.size cp sh)) := by
  have hf : β V.size = .fresh := h.out _ (Nat.le_refl _)
  have hx := Ext.fresh hf (.live w.heap.size cp sh)
  refine ⟨⟨?_, h.gfl, ?_, hs, ?_, ?_, ?_, ?_, ?_, ?_, h.flo, fun i hi => ?_, Nat.le_succ_of_le h.grow, ?_, ?_, ?_, ?_⟩, hx⟩
  · intro g hg
    have := h.lt (h.glob g hg)
    rw [upd_ne _ _ (by omega)]; exact h.glob g hg
  · show V.floor ≤ V.size + 1
    have := h.gsz; omega
  · intro i hi
    have hi' : V.size + 1 ≤ i := hi
    rw [upd_ne _ _ (by omega)]; exact h.out i (by omega)
  · intro i b cp' sh' e
    by_cases hi : i = V.size
    · subst hi
      rw [upd_same] at e
      cases e
      exact ⟨o, o', by rw [VW.get_push hs, if_pos rfl], World.alloc_heap_new w o', ho.mono hx⟩
    · rw [upd_ne _ _ hi] at e
      obtain ⟨p, p', h1, h2, h3⟩ := h.obj i b cp' sh' e
      exact ⟨p, p', by rw [VW.get_push hs, if_neg hi]; exact h1, by rw [Below.heap_alloc _ _ _ (block_lt h2)]; exact h2, h3.mono hx⟩
  · intro i e
    by_cases hi : i = V.size
    · subst hi; rw [upd_same] at e; cases e
    · rw [upd_ne _ _ hi] at e; rw [VW.get_push hs, if_neg hi]; exact h.dead i e
  · intro i j b cp1 sh1 cp2 sh2 e1 e2
    by_cases hi : i = V.size
    · by_cases hj : j = V.size
      · omega
      · subst hi; rw [upd_same] at e1; rw [upd_ne _ _ hj] at e2; cases e1
        obtain ⟨p, p', h1, h2, h3⟩ := h.obj j _ _ _ e2
        have := block_lt h2; omega
    · rw [upd_ne _ _ hi] at e1
      by_cases hj : j = V.size
      · subst hj; rw [upd_same] at e2; cases e2
        obtain ⟨p, p', h1, h2, h3⟩ := h.obj i _ _ _ e1
        have := block_lt h2; omega
      · rw [upd_ne _ _ hj] at e2; exact h.inj i j _ _ _ _ _ e1 e2
  · intro i b cp1 sh1 e hi
    by_cases hiv : i = V.size
    · subst hiv; rw [upd_same] at e; cases e; exact ⟨h.base.size, fun hp => absurd (h.kept _ hp).1 (Nat.lt_irrefl _)⟩
    · rw [upd_ne _ _ hiv] at e; exact h.own i b _ _ e hi
  · intro i hi
    have := h.gsz
    have hi' : i < V.floor := hi
    rw [VW.get_push hs, if_neg (by omega)]; exact h.keep i hi
  · have := h.gsz
    have hi' : i < V.floor := hi
    rw [upd_ne _ _ (by omega)]; exact h.low i hi
  · exact h.base.alloc h.base.size o'
  · intro b hb
    obtain ⟨h1, h2⟩ := h.kept b hb
    exact ⟨by simp; omega, by rw [Below.heap_alloc _ _ _ h1]; exact h2⟩
  · intro i hi hf'
    have := h.grow
    obtain ⟨h1, h2⟩ := h.frz i hi hf'
    rw [upd_ne _ _ (by omega), VW.get_push hs, if_neg (by omega)]; exact ⟨h1, h2⟩
  · intro i p hp
    rw [VW.get_push hs] at hp
    by_cases hi : i = V.size
    · rw [if_pos hi] at hp; cases hp
      exact ⟨β, cp, sh, o', fun y hy => h.out y (by have : V.size + 1 ≤ y := hy; omega), ho⟩
    · rw [if_neg hi] at hp; exact (h.bd i p hp).mono (Nat.le_succ _)

theorem heap_put_same {w : World} {b : Nat} {o o' : Obj} (h : w.heap[b]? = some o) : (w.putObj b o').heap[b]? = some o' := World.putObj_heap_same (block_lt h)

theorem Below.putObj {B : Nat} {a w : World} (h : Below B a w) {b : Nat} (hb : B ≤ b) (o : Obj) : Below B a (w.putObj b o) :=
  h.trans ⟨rfl, rfl, rfl, by simp, fun k hk => World.putObj_heap_other (by omega)⟩

/-- A block is written. -/
theorem WR.put (h : WR P B β V w) {i b cp sh : Nat} (e : β i = .live b cp sh) (hi : V.floor ≤ i) {o : VObj} {o' : Obj} (ho : ObjR P β cp sh o o') :
    WR P B β (V.put i o) (w.putObj b o') := by
  have hit : i < top := by have := h.lt e; have := h.tops; omega
  obtain ⟨q, q', hq1, hq2, hq3⟩ := h.obj i _ _ _ e
  refine ⟨h.glob, h.gfl, h.gsz, h.tops, h.out, ?_, ?_, h.inj, h.own, ?_, h.flo, h.low, h.grow, ?_, ?_, ?_, ?_⟩
  · intro j b' cp' sh' e'
    by_cases hj : j = i
    · subst hj; rw [e] at e'; cases e'
      exact ⟨o, o', by rw [VW.get_put hit, if_pos rfl], heap_put_same hq2, ho⟩
    · obtain ⟨p, p', h1, h2, h3⟩ := h.obj j _ _ _ e'
      refine ⟨p, p', by rw [VW.get_put hit, if_neg hj]; exact h1, ?_, h3⟩
      rw [World.putObj_heap_other]; · exact h2
      intro hb; subst hb; exact hj (h.inj _ _ _ _ _ _ _ e' e)
  · intro j e'
    by_cases hj : j = i
    · subst hj; rw [e] at e'; cases e'
    · rw [VW.get_put hit, if_neg hj]; exact h.dead j e'
  · intro j hj
    have hj' : j < V.floor := hj
    rw [VW.get_put hit, if_neg (by omega)]; exact h.keep j hj
  · exact Below.putObj h.base (h.own _ _ _ _ e hi).1 o'
  · intro b' hb'
    obtain ⟨h1, h2⟩ := h.kept b' hb'
    have hne : b' ≠ b := fun hh => by subst hh; exact (h.own _ _ _ _ e hi).2 hb'
    exact ⟨by simpa using h1, by rw [World.putObj_heap_other hne]; exact h2⟩
  · intro j hj hf'
    obtain ⟨h1, h2⟩ := h.frz j hj hf'
    have hji : j ≠ i := fun hh => by subst hh; rw [e] at h1; cases h1
    rw [VW.get_put hit, if_neg hji]; exact ⟨h1, h2⟩
  · intro j p hp
    rw [VW.get_put hit] at hp
    by_cases hj : j = i
    · rw [if_pos hj] at hp; cases hp
      exact ⟨β, cp, sh, o', h.out, ho⟩
    · rw [if_neg hj] at hp; exact h.bd j p hp

/-- A block is given up. -/
theorem WR.kill (h : WR P B β V w) {i b cp sh : Nat} (e : β i = .live b cp sh) (hi : V.floor ≤ i) :
    WR P B (upd β i .dead) (V.put i (.dfr true)) w := by
  have hit : i < top := by have := h.lt e; have := h.tops; omega
  have hx := Ext.kill β i
  refine ⟨?_, h.gfl, h.gsz, h.tops, ?_, ?_, ?_, ?_, ?_, ?_, h.flo, fun j hj => ?_, h.grow, h.base, h.kept, fun j hj hf' => ?_, fun j p hp => ?_⟩
  · intro g hg; have := h.gfl; rw [upd_ne _ _ (by omega)]; exact h.glob g hg
  · intro j hj; have := h.lt e; have hj' : V.size ≤ j := hj; rw [upd_ne _ _ (by omega)]; exact h.out j hj
  · intro j b' cp' sh' e'
    by_cases hj : j = i
    · subst hj; rw [upd_same] at e'; cases e'
    · rw [upd_ne _ _ hj] at e'
      obtain ⟨p, p', h1, h2, h3⟩ := h.obj j _ _ _ e'
      exact ⟨p, p', by rw [VW.get_put hit, if_neg hj]; exact h1, h2, h3.mono hx⟩
  · intro j e'
    by_cases hj : j = i
    · subst hj; rw [VW.get_put hit, if_pos rfl]
    · rw [upd_ne _ _ hj] at e'; rw [VW.get_put hit, if_neg hj]; exact h.dead j e'
  · intro j k b' c1 s1 c2 s2 e1 e2
    by_cases hj : j = i
    · subst hj; rw [upd_same] at e1; cases e1
    · by_cases hk : k = i
      · subst hk; rw [upd_same] at e2; cases e2
      · rw [upd_ne _ _ hj] at e1; rw [upd_ne _ _ hk] at e2; exact h.inj _ _ _ _ _ _ _ e1 e2
  · intro j b' c1 s1 e1 hf
    by_cases hj : j = i
    · subst hj; rw [upd_same] at e1; cases e1
    · rw [upd_ne _ _ hj] at e1; exact h.own _ _ _ _ e1 hf
  · intro j hj
    have hj' : j < V.floor := hj
    rw [VW.get_put hit, if_neg (by omega)]; exact h.keep j hj
  · have hj' : j < V.floor := hj
    rw [upd_ne _ _ (by omega)]; exact h.low j hj
  · obtain ⟨h1, h2⟩ := h.frz j hj hf'
    have hji : j ≠ i := fun hh => by subst hh; rw [e] at h1; cases h1
    rw [upd_ne _ _ hji, VW.get_put hit, if_neg hji]; exact ⟨h1, h2⟩
  · rw [VW.get_put hit] at hp
    by_cases hj : j = i
    · rw [if_pos hj] at hp; cases hp; exact .dead P _
    · rw [if_neg hj] at hp; exact h.bd j p hp

/-- A real block gets a new virtual one. -/
theorem WR.attach (h : WR P B β V w) (hs : V.size < top) {b : Nat} {q' : Obj} (hb : w.heap[b]? = some q') (hB : B.w0.heap.size ≤ b ∧ ¬ B.prot b) (hn : ∀ i cp sh, β i ≠ .live b cp sh)
    (cp sh : Nat) {o : VObj} {o' : Obj} (ho : ObjR P β cp sh o o') :
    WR P B (upd β V.size (.live b cp sh)) (V.push o) (w.putObj b o') ∧ Ext β (upd β V.size (.live b cp sh)) := by
  have hf : β V.size = .fresh := h.out _ (Nat.le_refl _)
  have hx := Ext.fresh hf (.live b cp sh)
  refine ⟨⟨?_, h.gfl, ?_, hs, ?_, ?_, ?_, ?_, ?_, ?_, h.flo, fun i hi => ?_, Nat.le_succ_of_le h.grow, ?_, ?_, ?_, ?_⟩, hx⟩
  · intro g hg
    have := h.lt (h.glob g hg)
    rw [upd_ne _ _ (by omega)]; exact h.glob g hg
  · show V.floor ≤ V.size + 1
    have := h.gsz; omega
  · intro i hi
    have hi' : V.size + 1 ≤ i := hi
    rw [upd_ne _ _ (by omega)]; exact h.out i (by omega)
  · intro i b' cp' sh' e
    by_cases hi : i = V.size
    · subst hi
      rw [upd_same] at e
      cases e
      exact ⟨o, o', by rw [VW.get_push hs, if_pos rfl], heap_put_same hb, ho.mono hx⟩
    · rw [upd_ne _ _ hi] at e
      obtain ⟨p, p', h1, h2, h3⟩ := h.obj i b' cp' sh' e
      refine ⟨p, p', by rw [VW.get_push hs, if_neg hi]; exact h1, ?_, h3.mono hx⟩
      rw [World.putObj_heap_other]; · exact h2
      intro hbb; subst hbb; exact hn _ _ _ e
  · intro i e
    by_cases hi : i = V.size
    · subst hi; rw [upd_same] at e; cases e
    · rw [upd_ne _ _ hi] at e; rw [VW.get_push hs, if_neg hi]; exact h.dead i e
  · intro i j b' cp1 sh1 cp2 sh2 e1 e2
    by_cases hi : i = V.size
    · by_cases hj : j = V.size
      · omega
      · subst hi; rw [upd_same] at e1; rw [upd_ne _ _ hj] at e2; cases e1
        exact absurd e2 (hn _ _ _)
    · rw [upd_ne _ _ hi] at e1
      by_cases hj : j = V.size
      · subst hj; rw [upd_same] at e2; cases e2
        exact absurd e1 (hn _ _ _)
      · rw [upd_ne _ _ hj] at e2; exact h.inj i j _ _ _ _ _ e1 e2
  · intro i b' cp1 sh1 e hi
    by_cases hiv : i = V.size
    · subst hiv; rw [upd_same] at e; cases e; exact hB
    · rw [upd_ne _ _ hiv] at e; exact h.own i b' _ _ e hi
  · intro i hi
    have := h.gsz
    have hi' : i < V.floor := hi
    rw [VW.get_push hs, if_neg (by omega)]; exact h.keep i hi
  · have := h.gsz
    have hi' : i < V.floor := hi
    rw [upd_ne _ _ (by omega)]; exact h.low i hi
  · exact Below.putObj h.base hB.1 o'
  · intro b' hb'
    obtain ⟨h1, h2⟩ := h.kept b' hb'
    have hne : b' ≠ b := fun hh => by subst hh; exact hB.2 hb'
    exact ⟨by simpa using h1, by rw [World.putObj_heap_other hne]; exact h2⟩
  · intro i hi hf'
    have := h.grow
    obtain ⟨h1, h2⟩ := h.frz i hi hf'
    rw [upd_ne _ _ (by omega), VW.get_push hs, if_neg (by omega)]; exact ⟨h1, h2⟩
  · intro i p hp
    rw [VW.get_push hs] at hp
    by_cases hi : i = V.size
    · rw [if_pos hi] at hp; cases hp
      exact ⟨β, cp, sh, o', fun y hy => h.out y (by have : V.size + 1 ≤ y := hy; omega), ho⟩
    · rw [if_neg hi] at hp; exact (h.bd i p hp).mono (Nat.le_succ _)

theorem putObj_self {w : World} {b : Nat} {o : Obj} (h : w.heap[b]? = some o) : w.putObj b o = w := by
  unfold World.putObj
  cases w with
  | mk heap tape drawn os output =>
    congr 1
    apply Array.ext
    · simp
    · intro k h1 h2
      rw [Array.getElem_setIfInBounds]
      split
      · rename_i hk; subst hk; exact ((Array.getElem?_eq_some_iff.1 h).2).symm
      · rfl

/-- The block of an unknown capacity is taken over by a new virtual one. -/
theorem WR.move (h : WR P B β V w) {i b cp sh : Nat} (e : β i = .live b cp sh) (hi : V.floor ≤ i) (ht : V.size < top) (cp' sh' : Nat) {o : VObj} {o' : Obj} (ho : ObjR P (upd β i .dead) cp' sh' o o') :
    WR P B (upd (upd β i .dead) V.size (.live b cp' sh')) ((V.put i (.dfr true)).push o) (w.putObj b o') ∧ Ext β (upd (upd β i .dead) V.size (.live b cp' sh')) := by
  obtain ⟨q, q', hq1, hq2, hq3⟩ := h.obj i _ _ _ e
  have hk := h.kill e hi
  obtain ⟨h1, h2⟩ := hk.attach (by exact ht) hq2 (h.own _ _ _ _ e hi) (fun j c s hj => by
    by_cases hji : j = i
    · subst hji; rw [upd_same] at hj; cases hj
    · rw [upd_ne _ _ hji] at hj; exact hji (h.inj _ _ _ _ _ _ _ hj e)) cp' sh' ho
  exact ⟨h1, (Ext.kill β i).trans h2⟩

/-- The world goes on, and nothing that is there turns. -/
theorem WR.later (h : WR P B β V w) {w' : World} (hb : Below w.heap.size w w') : WR P B β V w' :=
  ⟨h.glob, h.gfl, h.gsz, h.tops, h.out, fun i b cp sh e => by
      obtain ⟨o, o', h1, h2, h3⟩ := h.obj i b cp sh e
      exact ⟨o, o', h1, by rw [hb.block b (block_lt h2)]; exact h2, h3⟩, h.dead, h.inj, h.own, h.keep, h.flo, h.low, h.grow,
    h.base.trans (hb.mono h.base.size), fun b hp => by
      obtain ⟨h1, h2⟩ := h.kept b hp
      exact ⟨Nat.lt_of_lt_of_le h1 hb.size, by rw [hb.block b h1]; exact h2⟩, h.frz, h.bd⟩
theorem WR.drew (h : WR P B β V w) {w' : World} (hh : w'.heap = w.heap) (h1 : w'.os = w.os) (h2 : w'.tape = w.tape) (h3 : w'.output = w.output) : WR P B β V w' :=
  h.later ⟨h1, h2, h3, by rw [hh]; exact Nat.le_refl _, fun k _ => by rw [hh]⟩
end
end Go.Vx
