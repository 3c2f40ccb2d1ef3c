/-
  Says: a region that draws its order, whose operations read old memory, call functions that only make memory, or lay a new variable that only the last operations of the region touch, may be walked once in the order of the text (lemmas on the model alone; no statement of the seat is proved here).
-/
import Derived.StillTail
import Derived.Test.YtbghfcllicfnpaaGreatDoorLater
namespace Go.Proofs.YtbghfcllicfnpaaGreatDoor
open Go Go.RowKit

section
variable {P : Program} {ops : Array Oper} {md : Region.Mode} {W : World} {N : List Nat}

/-- What is asked of an operation in the world w: one value, and a world that is later. -/
def quietL (P : Program) (o : Oper) (a : Act) (W : World) (next : Act → Prop) : Prop :=
  ∃ v, (∀ u : Later W, o.quietAt P a (fun w'' => ∃ u' : Later (on u), w'' = on u') (on u) v) ∧ next (a.put o.dst v)

/-- The walk in the order of the text, from operation k on: N are the numbers of those that lay a new variable: they are passed over. -/
def wpLex (P : Program) (ops : Array Oper) (W : World) (N : List Nat) (Q : Act → Prop) : Nat → List Oper → Act → Prop
  | _, [], a => Q a
  | k, o :: rest, a =>
    if N.contains k then wpLex P ops W N Q (k + 1) rest (a.put o.dst undef)
    else if Region.wanted o (yielded ops a.tmps) then quietL P o a W (wpLex P ops W N Q (k + 1) rest)
    else wpLex P ops W N Q (k + 1) rest (a.put o.dst undef)

def Ylds (P : Program) (ops : Array Oper) (W : World) (N : List Nat) (i : Nat) (o : Oper) (v : Value) (a : Act) : Prop :=
  (N.contains i = true ∧ v = undef) ∨
  (N.contains i = false ∧ Region.wanted o (yielded ops a.tmps) = true ∧ ∀ u : Later W, o.quietAt P a (fun w'' => ∃ u' : Later (on u), w'' = on u') (on u) v) ∨
  (N.contains i = false ∧ Region.wanted o (yielded ops a.tmps) = false ∧ v = undef)

theorem Ylds.of_same {i : Nat} {o : Oper} {v : Value} {a a' : Act} (hy : Ylds P ops W N i o v a) (he : execOp a'.eval o = execOp a.eval o)
    (hw : Region.wanted o (yielded ops a'.tmps) = Region.wanted o (yielded ops a.tmps)) : Ylds P ops W N i o v a' := by
  unfold Ylds Oper.quietAt at *
  rw [he, hw]
  exact hy

def gOp (P : Program) (ops : Array Oper) (W : World) (N : List Nat) (i : Nat) (K : Act → Prop) (a : Act) : Prop :=
  match ops[i]? with
  | none => K a
  | some o => ∃ v, Ylds P ops W N i o v a ∧ K (a.put o.dst v)

theorem gOp_mono {i : Nat} {a : Act} {K K' : Act → Prop} (h : ∀ a, K a → K' a) (hh : gOp P ops W N i K a) : gOp P ops W N i K' a := by
  unfold gOp at *
  split
  · exact h _ (by simpa [*] using hh)
  · rename_i o ho
    simp only [ho] at hh
    obtain ⟨v, hv, hk⟩ := hh
    exact ⟨v, hv, h _ hk⟩

theorem Ylds.gOp {i : Nat} {o : Oper} {v : Value} {a : Act} (hi : ops[i]? = some o) (hy : Ylds P ops W N i o v a) {K : Act → Prop} (h : K (a.put o.dst v)) : gOp P ops W N i K a := by
  unfold YtbghfcllicfnpaaGreatDoor.gOp
  simp only [hi]
  exact ⟨v, hy, h⟩

theorem gOp_put {i j : Nat} {oi oj : Oper} {v : Value} (hj : ops[j]? = some oj) (hap : oi.apart ops oj = true)
    (hsi : ∀ cs b, oi.op ≠ .select cs b) (hsj : ∀ cs b, oj.op ≠ .select cs b) {K : Act → Prop} {a : Act}
    (hy : Ylds P ops W N i oi v a) (h : gOp P ops W N j K (a.put oi.dst v)) :
    gOp P ops W N j (fun a' => Ylds P ops W N i oi v a' ∧ K (a'.put oi.dst v)) a := by
  obtain ⟨h1, h2, h3⟩ := Oper.apart_spec hap
  have keep : ∀ (a : Act), Ylds P ops W N i oi v a → ∀ u, Ylds P ops W N i oi v (a.put oj.dst u) := fun a hy u =>
    hy.of_same (execOp_put oi hsi a oj.dst u h3) (wanted_put oi a oj.dst u h3)
  unfold gOp at *
  simp only [hj] at *
  obtain ⟨u, hu, hk⟩ := h
  refine ⟨u, hu.of_same (execOp_put oj hsj a oi.dst v h1).symm (wanted_put oj a oi.dst v h1).symm, keep a hy u, ?_⟩
  rw [← Act.put_comm a v u h2]
  exact hk

/-- Whatever order: only operations of the head come up, till it is at its end. -/
def anyL (P : Program) (md : Region.Mode) (ops : Array Oper) (W : World) (N : List Nat) (n : Nat) (L : Array Bool → Act → Prop) : Nat → Array Bool → Act → Prop
  | 0, listed, a => L listed a
  | f + 1, listed, a =>
    Region.ready md ops listed ≠ [] ∧ ∀ i ∈ Region.ready md ops listed, i < n ∧ gOp P ops W N i (anyL P md ops W N n L f (listed.setIfInBounds i true)) a

theorem anyL_first {n i : Nat} {oi : Oper} {v : Value} {L : Array Bool → Act → Prop} (hi : ops[i]? = some oi) (hsel : ∀ (j : Nat) (o : Oper) cs b, ops[j]? = some o → o.op ≠ .select cs b)
    (hs : Region.sinkB md ops n = true) (hc : Region.chainB md ops n = true) (hn : n < ops.size) (hin : i < n)
    (hdone : ∀ listed a, L listed a → ∀ j ∈ Region.ready md ops listed, n ≤ j) :
    ∀ (f : Nat) (listed : Array Bool) (a : Act), HeadInv md ops n listed →
      (∀ j oj, ops[j]? = some oj → j ≠ i → listed.getD j true = false → (∀ e ∈ oj.after, Region.binds md e = true → e.on ≠ i) → oi.apart ops oj = true) →
      i ∈ Region.ready md ops listed → Ylds P ops W N i oi v a →
      anyL P md ops W N n L f (listed.setIfInBounds i true) (a.put oi.dst v) → anyL P md ops W N n L (f + 1) listed a := by
  intro f
  induction f with
  | zero =>
    intro listed a inv _ hr hy H
    have hun := (mem_ready.1 hr).1
    refine ⟨fun h => (by rw [h] at hr; cases hr), fun j hj => ?_⟩
    have hjn : j < n := by
      rcases Nat.lt_or_ge j n with h | h
      · exact h
      · exact absurd hj (tail_waits hs hc hn inv _ i rfl hin hun j h)
    refine ⟨hjn, ?_⟩
    by_cases hji : j = i
    · subst hji; exact hy.gOp hi H
    · have := hdone _ _ H j (ready_mono hj hji)
      omega
  | succ f ih =>
    intro listed a inv hfree hr hy H
    have hun := (mem_ready.1 hr).1
    refine ⟨fun h => (by rw [h] at hr; cases hr), fun j hj => ?_⟩
    have hjn : j < n := by
      rcases Nat.lt_or_ge j n with h | h
      · exact h
      · exact absurd hj (tail_waits hs hc hn inv _ i rfl hin hun j h)
    refine ⟨hjn, ?_⟩
    by_cases hji : j = i
    · subst hji; exact hy.gOp hi H
    · have h1 := (H.2 j (ready_mono hj hji)).2
      obtain ⟨hjun, oj, hoj, hall⟩ := mem_ready.1 hj
      have hnot : ∀ e ∈ oj.after, Region.binds md e = true → e.on ≠ i := fun e he hb heq => by
        have h1 := hall e he hb
        rw [heq, getD_both hun] at h1
        cases h1
      have h2 := gOp_put hoj (hfree j oj hoj hji hjun hnot) (fun cs b => hsel i oi cs b hi) (fun cs b => hsel j oj cs b hoj) hy h1
      have hfree' : ∀ k ok, ops[k]? = some ok → k ≠ i → (listed.setIfInBounds j true).getD k true = false →
          (∀ e ∈ ok.after, Region.binds md e = true → e.on ≠ i) → oi.apart ops ok = true := fun k ok hk hki hun hno => by
        refine hfree k ok hk hki ?_ hno
        by_cases hjk : j = k
        · subst hjk; exact hjun
        · rw [getD_set_ne true hjk] at hun; exact hun
      refine gOp_mono (fun a' h3 => ih (listed.setIfInBounds j true) a' (inv.set hj hjn) hfree' (ready_mono hr (Ne.symm hji)) h3.1 ?_) h2
      rw [Array.setIfInBounds_comm _ _ hji]
      exact h3.2

theorem anyL_lex {n g : Nat} {Lq : Act → Prop} (hsel : Region.noSelect ops = true) (hs : Region.sinkB md ops n = true) (hc : Region.chainB md ops n = true) (hn : n < ops.size) :
    ∀ (l : List Oper) (k : Nat) (listed : Array Bool) (a : Act), (∀ j, j < l.length → l[j]? = ops[k + j]?) → k + l.length = n → HeadInv md ops n listed →
    Region.lexHead md ops g l.length k listed = true → wpLex P ops W N Lq k l a →
    anyL P md ops W N n (fun listed' a' => Region.seqB md ops g n listed' = true ∧ Lq a') l.length listed a
  | [], k, listed, a, _, hk, _, hB, h => by
    have : k = n := by simpa using hk
    subst this
    exact ⟨by simpa [Region.lexHead] using hB, h⟩
  | o :: l, k, listed, a, hl, hk, inv, hB, h => by
    have h0 : ops[k]? = some o := by simpa using (hl 0 (by simp)).symm
    simp only [List.length_cons, Region.lexHead, Bool.and_eq_true] at hB
    obtain ⟨⟨hr, hf⟩, hB'⟩ := hB
    have hkn : k < n := by simp only [List.length_cons] at hk; omega
    have hr' : k ∈ Region.ready md ops listed := by simpa using hr
    have hst : ∃ v, Ylds P ops W N k o v a ∧ wpLex P ops W N Lq (k + 1) l (a.put o.dst v) := by
      unfold wpLex at h
      split at h
      · rename_i hN; exact ⟨undef, .inl ⟨hN, rfl⟩, h⟩
      · rename_i hN
        have hN' : N.contains k = false := by simpa using hN
        split at h
        · rename_i hw
          obtain ⟨v, h1, h2⟩ := h
          exact ⟨v, .inr (.inl ⟨hN', hw, h1⟩), h2⟩
        · rename_i hw
          exact ⟨undef, .inr (.inr ⟨hN', by simpa using hw, rfl⟩), h⟩
    obtain ⟨v, hy, hK⟩ := hst
    exact anyL_first h0 (Region.noSelect_spec hsel) hs hc hn hkn (fun listed' a' hL => seqB_ready hL.1) l.length listed a inv (Region.free_spec h0 hf) hr' hy
      (anyL_lex hsel hs hc hn l (k + 1) _ _ (fun j hj => by have := hl (j + 1) (by simp; omega); simpa [Nat.add_assoc, Nat.add_comm 1 j] using this) (by simp only [List.length_cons] at hk; omega) (inv.set hr' hkn) hB' hK)

/-! ### The new variables -/

/-- The slots L hold pointers to the blocks B. -/
def ovl (B : Nat → Nat) : List Nat → Act → Act
  | [], a => a
  | d :: L, a => (ovl B L a).put (some d) (.pointer (some ⟨B d, 0, none⟩))

theorem ovl_exec (B : Nat → Nat) (o : Oper) (hs : ∀ cs b, o.op ≠ .select cs b) (a : Act) : ∀ (L : List Nat), (∀ d ∈ L, d ∉ o.looksAt ops) → execOp (ovl B L a).eval o = execOp a.eval o
  | [], _ => rfl
  | d :: L, h => by
    show execOp ((ovl B L a).put (some d) _).eval o = _
    rw [execOp_put (ops := ops) o hs _ (some d) _ (fun e he => by cases he; exact h d (by simp))]
    exact ovl_exec B o hs a L (fun e he => h e (by simp [he]))

theorem ovl_wanted (B : Nat → Nat) (o : Oper) (a : Act) : ∀ (L : List Nat), (∀ d ∈ L, d ∉ o.looksAt ops) → Region.wanted o (yielded ops (ovl B L a).tmps) = Region.wanted o (yielded ops a.tmps)
  | [], _ => rfl
  | d :: L, h => by
    show Region.wanted o (yielded ops ((ovl B L a).put (some d) _).tmps) = _
    rw [wanted_put o _ (some d) _ (fun e he => by cases he; exact h d (by simp))]
    exact ovl_wanted B o a L (fun e he => h e (by simp [he]))

theorem ovl_put (B : Nat → Nat) (a : Act) (x : Option Tmp) (v : Value) : ∀ (L : List Nat), (∀ d ∈ L, x ≠ some d) → (ovl B L a).put x v = ovl B L (a.put x v)
  | [], _ => rfl
  | d :: L, h => by
    show ((ovl B L a).put (some d) _).put x v = (ovl B L (a.put x v)).put (some d) _
    rw [Act.put_comm _ _ _ (fun e he => by cases he; exact h d (by simp)), ovl_put B a x v L (fun e he => h e (by simp [he]))]

theorem ovl_congr {B B' : Nat → Nat} (a : Act) : ∀ (L : List Nat), (∀ d ∈ L, B d = B' d) → ovl B L a = ovl B' L a
  | [], _ => rfl
  | d :: L, h => by
    show (ovl B L a).put (some d) _ = (ovl B' L a).put (some d) _
    rw [h d (by simp), ovl_congr a L (fun e he => h e (by simp [he]))]

theorem put_put (a : Act) (d : Nat) (v u : Value) : (a.put (some d) v).put (some d) u = a.put (some d) u := by
  simp [Act.put]

theorem ovl_perm (B : Nat → Nat) (a : Act) {L L' : List Nat} (h : L.Perm L') : ovl B L a = ovl B L' a := by
  induction h with
  | nil => rfl
  | cons d _ ih => show (ovl B _ a).put _ _ = (ovl B _ a).put _ _; rw [ih]
  | swap d e L =>
    show ((ovl B L a).put (some d) _).put (some e) _ = ((ovl B L a).put (some e) _).put (some d) _
    by_cases hde : d = e
    · subst hde; rfl
    · exact Act.put_comm _ _ _ (fun x hx => by cases hx; intro h; exact hde (by injection h with h; exact h.symm))
  | trans _ _ h1 h2 => exact h1.trans h2

/-- Operation i lays a new variable, od d, and hands its address to slot d, which no other operation of the head looks at. -/
structure NewAt (P : Program) (ops : Array Oper) (n : Nat) (od : Nat → Obj) (i d : Nat) : Prop where
  lt : i < n
  op : ∃ o, ops[i]? = some o ∧ o.dst = some d ∧ o.guard = none ∧ (∀ ρ w, (execOp ρ o).run P w = .ok (.value (.pointer (some ⟨w.heap.size, 0, none⟩))) (w.alloc (od d))) ∧
    ∀ j oj, j < n → j ≠ i → ops[j]? = some oj → o.apart ops oj = true

structure InvS (W : World) (od : Nat → Obj) (ND : List (Nat × Nat)) (listed : Array Bool) (B : Nat → Nat) (M : List (Nat × Nat)) (ap a : Act) (w : World) : Prop where
  sub : ∀ x ∈ M, x ∈ ND ∧ listed.getD x.1 true = true
  all : ∀ x ∈ ND, listed.getD x.1 true = true → x ∈ M
  eq : a = ovl B (M.map (·.2)) ap
  nodup : (M.map (·.2)).Nodup
  below : Below W.heap.size W w
  lo : ∀ x ∈ M, W.heap.size ≤ B x.2
  held : ∀ x ∈ M, w.heap[B x.2]? = some (od x.2)
  ne : ∀ x ∈ M, ∀ y ∈ M, x.2 ≠ y.2 → B x.2 ≠ B y.2

theorem getD_set_self {listed : Array Bool} {i : Nat} : (listed.setIfInBounds i true).getD i true = true := by
  rcases Nat.lt_or_ge i listed.size with h | h
  · simp [h]
  · simp [h]

theorem sim {n g : Nat} {od : Nat → Obj} {ND : List (Nat × Nat)} {L : Array Bool → Act → Prop} {Q' : Exit → Act → World → Prop} (hsel : ∀ (j : Nat) (o : Oper) cs b, ops[j]? = some o → o.op ≠ .select cs b)
    (hND : ∀ x ∈ ND, NewAt P ops n od x.1 x.2) (h2 : ∀ x ∈ ND, ∀ y ∈ ND, x.2 = y.2 → x = y)
    (hL : ∀ listed B M ap a w, HeadInv md ops n listed → InvS W od ND listed B M ap a w → L listed ap → wpAny P md ops Q' g listed a w) :
    ∀ (f : Nat) (listed : Array Bool) (B : Nat → Nat) (M : List (Nat × Nat)) (ap a : Act) (w : World), HeadInv md ops n listed → InvS W od ND listed B M ap a w →
      anyL P md ops W (ND.map (·.1)) n L f listed ap → wpAny P md ops Q' (f + g) listed a w
  | 0, listed, B, M, ap, a, w, hi, inv, h => by rw [Nat.zero_add]; exact hL _ _ _ _ _ _ hi inv h
  | f + 1, listed, B, M, ap, a, w, hi, inv, h => by
    rw [show f + 1 + g = (f + g) + 1 by omega]
    refine ⟨fun h0 => absurd h0 h.1, fun i hir => ?_⟩
    obtain ⟨hin, hg⟩ := h.2 i hir
    obtain ⟨hun, o, ho, hall⟩ := mem_ready.1 hir
    have hi' := hi.set hir hin
    unfold gOp at hg
    simp only [ho] at hg
    obtain ⟨v, hy, hK⟩ := hg
    unfold wpOp
    simp only [ho]
    have hother : ∀ x ∈ M, x.1 ≠ i := fun x hx e => by
      have := (inv.sub x hx).2
      rw [e, hun] at this
      cases this
    by_cases hN : (ND.map (·.1)).contains i = true
    · have hv : v = undef := by
        rcases hy with ⟨_, e⟩ | ⟨h', _⟩ | ⟨h', _⟩
        · exact e
        · rw [hN] at h'; cases h'
        · rw [hN] at h'; cases h'
      subst hv
      have hN' : i ∈ ND.map (·.1) := by simpa using hN
      obtain ⟨x, hx, hxi⟩ := List.mem_map.1 hN'
      obtain ⟨_, o', ho', hd, hgd, hrun, hap⟩ := hND x hx
      obtain rfl : o = o' := by rw [hxi] at ho'; exact Option.some.inj (ho.symm.trans ho')
      have hw : Region.wanted o (yielded ops a.tmps) = true := by unfold Region.wanted; rw [hgd]
      simp only [hw, if_true]
      refine .inl ?_
      unfold Oper.wp
      rw [hrun]
      show wpAny P md ops Q' (f + g) _ (a.put o.dst _) (w.alloc _)
      have hfresh : ∀ y ∈ M, y.2 ≠ x.2 := fun y hy e => by
        have := h2 y (inv.sub y hy).1 x hx e
        exact hother y hy (by rw [this, hxi])
      have hlt : ∀ y ∈ M, B y.2 < w.heap.size := fun y hy => (Array.getElem?_eq_some_iff.1 (inv.held y hy)).1
      refine sim hsel hND h2 hL f _ (fun e => if e = x.2 then w.heap.size else B e) (x :: M) (ap.put o.dst undef) _ _ hi' ?_ hK
      rw [hd]
      refine ⟨fun y hy => ?_, fun y hy hl => ?_, ?_, ?_, inv.below.alloc inv.below.size _, fun y hy => ?_, fun y hy => ?_, fun y hy z hz hne => ?_⟩
      · rcases List.mem_cons.1 hy with rfl | hy
        · exact ⟨hx, by rw [hxi]; exact getD_set_self⟩
        · exact ⟨(inv.sub y hy).1, by rw [getD_set_ne true (Ne.symm (hother y hy))]; exact (inv.sub y hy).2⟩
      · by_cases hyi : i = y.1
        · have : y = x := by
            obtain ⟨_, oy, hoy, hdy, _⟩ := hND y hy
            rw [← hyi] at hoy
            obtain rfl : o = oy := Option.some.inj (ho.symm.trans hoy)
            exact h2 y hy x hx (by rw [hd] at hdy; injection hdy with hdy; exact hdy.symm)
          rw [this]; simp
        · rw [getD_set_ne true hyi] at hl
          exact List.mem_cons_of_mem _ (inv.all y hy hl)
      · show a.put (some x.2) _ = (ovl _ (M.map (·.2)) (ap.put (some x.2) undef)).put (some x.2) (.pointer (some ⟨if x.2 = x.2 then w.heap.size else B x.2, 0, none⟩))
        rw [if_pos rfl, inv.eq]
        rw [ovl_congr (B' := B) (ap.put (some x.2) undef) _ (fun d hd' => by
          obtain ⟨y, hy, rfl⟩ := List.mem_map.1 hd'
          exact if_neg (hfresh y hy))]
        rw [← ovl_put B ap (some x.2) undef _ (fun d hd' e => by
          obtain ⟨y, hy, rfl⟩ := List.mem_map.1 hd'
          injection e with e
          exact hfresh y hy e.symm), put_put]
      · show (x.2 :: M.map (·.2)).Nodup
        refine List.nodup_cons.2 ⟨fun hm => ?_, inv.nodup⟩
        obtain ⟨y, hy, e⟩ := List.mem_map.1 hm
        exact hfresh y hy e
      · show W.heap.size ≤ if y.2 = x.2 then w.heap.size else B y.2
        rcases List.mem_cons.1 hy with rfl | hy
        · rw [if_pos rfl]; exact inv.below.size
        · rw [if_neg (hfresh y hy)]; exact inv.lo y hy
      · show (w.alloc _).heap[if y.2 = x.2 then w.heap.size else B y.2]? = _
        rcases List.mem_cons.1 hy with rfl | hy
        · rw [if_pos rfl]; show (w.heap.push _)[w.heap.size]? = _; simp
        · rw [if_neg (hfresh y hy), Below.heap_alloc _ _ _ (hlt y hy)]; exact inv.held y hy
      · show (if y.2 = x.2 then w.heap.size else B y.2) ≠ if z.2 = x.2 then w.heap.size else B z.2
        rcases List.mem_cons.1 hy with hy1 | hy1
        · rcases List.mem_cons.1 hz with hz1 | hz1
          · exact absurd (by rw [hy1, hz1]) hne
          · rw [if_pos (by rw [hy1]), if_neg (hfresh z hz1)]; have := hlt z hz1; omega
        · rcases List.mem_cons.1 hz with hz1 | hz1
          · rw [if_neg (hfresh y hy1), if_pos (by rw [hz1])]; have := hlt y hy1; omega
          · rw [if_neg (hfresh y hy1), if_neg (hfresh z hz1)]; exact inv.ne y hy1 z hz1 hne
    · have hN' : (ND.map (·.1)).contains i = false := by simpa using hN
      have hlook : ∀ d ∈ M.map (·.2), d ∉ o.looksAt ops := fun d hd => by
        obtain ⟨y, hy, rfl⟩ := List.mem_map.1 hd
        obtain ⟨_, oy, hoy, hdy, _, _, hap⟩ := hND y (inv.sub y hy).1
        exact (Oper.apart_spec (hap i o hin (Ne.symm (hother y hy)) ho)).1 _ hdy
      have hdst : ∀ d ∈ M.map (·.2), o.dst ≠ some d := fun d hd => by
        obtain ⟨y, hy, rfl⟩ := List.mem_map.1 hd
        obtain ⟨_, oy, hoy, hdy, _, _, hap⟩ := hND y (inv.sub y hy).1
        exact (Oper.apart_spec (hap i o hin (Ne.symm (hother y hy)) ho)).2.1 _ hdy
      have he : execOp a.eval o = execOp ap.eval o := by rw [inv.eq]; exact ovl_exec B o (fun cs b => hsel i o cs b ho) ap _ hlook
      have hw : Region.wanted o (yielded ops a.tmps) = Region.wanted o (yielded ops ap.tmps) := by rw [inv.eq]; exact ovl_wanted B o ap _ hlook
      have step : ∀ (u : Value) (w' : World), Below w.heap.size w w' → InvS W od ND (listed.setIfInBounds i true) B M (ap.put o.dst u) (a.put o.dst u) w' := fun u w' hb =>
        ⟨fun y hy => ⟨(inv.sub y hy).1, by rw [getD_set_ne true (Ne.symm (hother y hy))]; exact (inv.sub y hy).2⟩,
          fun y hy hl => by
            by_cases hyi : i = y.1
            · exact absurd (by simpa using (List.mem_map.2 ⟨y, hy, hyi.symm⟩ : i ∈ ND.map (·.1))) hN
            · rw [getD_set_ne true hyi] at hl; exact inv.all y hy hl,
          by rw [inv.eq]; exact ovl_put B ap o.dst u _ hdst, inv.nodup, inv.below.trans (hb.mono inv.below.size), inv.lo,
          fun y hy => by rw [hb.block _ (Array.getElem?_eq_some_iff.1 (inv.held y hy)).1]; exact inv.held y hy, inv.ne⟩
      rcases hy with ⟨h', _⟩ | ⟨_, hwt, hq⟩ | ⟨_, hwf, rfl⟩
      · rw [hN'] at h'; cases h'
      · rw [hw, hwt]
        simp only [if_true]
        refine .inl ?_
        have hq1 := hq ⟨w, inv.below⟩
        unfold Oper.quietAt at hq1
        rw [← he] at hq1
        unfold Oper.wp
        change Oper.quietUpon P _ w v ((execOp a.eval o).run P w) at hq1
        generalize (execOp a.eval o).run P w = r at *
        cases r with
        | ok nx w' =>
          cases nx <;> simp only [Oper.quietUpon] at hq1 <;> simp only [Oper.upon]
          case value u =>
            obtain ⟨e1, e2⟩ := hq1
            rw [e1, e2]
            exact sim hsel hND h2 hL f _ B M _ _ _ hi' (step v w (Below.refl _ _)) hK
          case skip =>
            obtain ⟨e1, e2⟩ := hq1
            rw [e1, ← e2]
            exact sim hsel hND h2 hL f _ B M _ _ _ hi' (step v w (Below.refl _ _)) hK
          case enter f' args =>
            obtain ⟨e1, hc⟩ := hq1
            rw [e1]
            refine hc.mono fun e w'' ⟨he', u', hu'⟩ => ?_
            subst he'
            subst hu'
            exact sim hsel hND h2 hL f _ B M _ _ _ hi' (step v _ u'.b) hK
        | halt x w' => simp only [Oper.quietUpon] at hq1
      · rw [hw, hwf]
        simp only [Bool.false_eq_true, if_false]
        exact sim hsel hND h2 hL f _ B M _ _ _ hi' (step undef w (Below.refl _ _)) hK

/-- **ONE WALK IN THE ORDER OF THE TEXT**, the new variables' blocks behind letters; then the last operations. -/
theorem wp_region_free {id : Nat} {Q : Exit → Act → World → Prop} {a : Act} {W : World} {l : List Oper} (n : Nat) (od : Nat → Obj) (ND : List (Nat × Nat)) (hm : P.follows .mixedOrders = true)
    (hB : Region.lexTailB .any l.toArray n = true) (hND : ∀ x ∈ ND, NewAt P l.toArray n od x.1 x.2) (h2 : (ND.map (·.2)).Nodup) (h1 : ∀ x ∈ ND, ∀ y ∈ ND, x.2 = y.2 → x = y)
    (h : wpLex P l.toArray W (ND.map (·.1)) (fun ap => ∀ (B : Nat → Nat) (u : Later W), (∀ d ∈ ND.map (·.2), W.heap.size ≤ B d ∧ (on u).heap[B d]? = some (od d)) → (∀ d ∈ ND.map (·.2), ∀ e ∈ ND.map (·.2), d ≠ e → B d ≠ B e) →
      wpList P l.toArray Q (l.drop n) (ovl B (ND.map (·.2)) ap) (on u)) 0 (l.take n) a) : (Code.region id l.toArray true).wp P Q a W := by
  have hBB := hB
  simp only [Region.lexTailB, Bool.and_eq_true, decide_eq_true_eq] at hB
  obtain ⟨⟨⟨⟨hsel, hn⟩, hs⟩, hc⟩, hlex⟩ := hB
  have hn' : n < l.length := by simpa using hn
  have htl : (l.take n).length = n := by simp; omega
  have hdl : (l.drop n).length = l.toArray.size - n := by simp
  have inv0 : HeadInv .any l.toArray n (Array.replicate l.toArray.size false) :=
    ⟨by simp, fun j oj _ hl => (by rw [getD_replicate_false] at hl; cases hl), fun t _ ht => getD_in (by simpa using ht) (getD_replicate_false _ _)⟩
  have H := anyL_lex (md := .any) (g := l.toArray.size - n) hsel hs hc hn (l.take n) 0 _ a (fun j hj => by
    have hj' : j < n := by rw [htl] at hj; exact hj
    simp [hj']) (by simpa using htl) inv0 (by rw [htl]; exact hlex) h
  have hW : ({ W with drawn := W.drawn + 1 } : World) = W.drew := rfl
  refine wp_region_any hm ?_
  rw [hW]
  have start : InvS W od ND (Array.replicate l.toArray.size false) (fun _ => 0) [] a a W.drew :=
    ⟨fun _ h => (by cases h), fun x hx hl => absurd hl (by
      have := getD_in (i := x.1) (listed := Array.replicate l.toArray.size false) (by have := (hND x hx).lt; simp at hn ⊢; omega) (getD_replicate_false _ _)
      rw [this]; exact Bool.false_ne_true), rfl, List.nodup_nil, (Below.refl _ _).drew, fun _ h => (by cases h), fun _ h => (by cases h), fun _ h => (by cases h)⟩
  have := sim (md := .any) (P := P) (Q' := Q) (W := W) (g := l.toArray.size - n) (Region.noSelect_spec hsel) hND h1 (fun listed B M ap a' w hi inv hL => by
    have hall : ∀ i, i < n → listed.getD i true = true := fun i hi' => by
      cases hg : listed.getD i true with
      | true => rfl
      | false =>
        have hseq := hL.1
        obtain ⟨g, hg'⟩ : ∃ g, l.toArray.size - n = g + 1 := ⟨l.toArray.size - n - 1, by simp at hn ⊢; omega⟩
        rw [hg'] at hseq
        simp only [Region.seqB, Bool.and_eq_true, decide_eq_true_eq] at hseq
        exact absurd (by rw [hseq.1]; simp) (tail_waits hs hc hn hi _ i rfl hi' hg n (Nat.le_refl _))
    have hmem : ∀ d, d ∈ M.map (·.2) ↔ d ∈ ND.map (·.2) := fun d => by
      constructor
      · intro hd
        obtain ⟨y, hy, rfl⟩ := List.mem_map.1 hd
        exact List.mem_map.2 ⟨y, (inv.sub y hy).1, rfl⟩
      · intro hd
        obtain ⟨y, hy, rfl⟩ := List.mem_map.1 hd
        exact List.mem_map.2 ⟨y, inv.all y hy (hall _ (hND y hy).lt), rfl⟩
    have hperm : (M.map (·.2)).Perm (ND.map (·.2)) := (List.perm_ext_iff_of_nodup inv.nodup h2).2 hmem
    have hQ := hL.2 B ⟨w, inv.below⟩ (fun d hd => by
      obtain ⟨y, hy, rfl⟩ := List.mem_map.1 ((hmem d).2 hd)
      exact ⟨inv.lo y hy, inv.held y hy⟩) (fun d hd e he hne => by
      obtain ⟨y, hy, rfl⟩ := List.mem_map.1 ((hmem d).2 hd)
      obtain ⟨z, hz, rfl⟩ := List.mem_map.1 ((hmem e).2 he)
      exact inv.ne y hy z hz hne)
    rw [← ovl_perm B ap hperm, ← inv.eq] at hQ
    have := wpAny_of_seq (md := .any) (Q' := Q) (l.drop n) n listed a' w (fun j => by simp [List.getElem?_drop]) (by rw [hdl]; exact hL.1) hQ
    rwa [hdl] at this) _ _ _ _ _ _ _ inv0 start H
  rw [htl, show n + (l.toArray.size - n) = l.toArray.size by omega] at this
  exact this

/-! ### The steps of the walk -/

def plainOp : Op → Bool
  | .move _ | .assign _ | .pick .. | .build .. | .load .. | .binOp .. | .unOp .. | .fieldAddr .. | .field .. | .indexAddr .. | .index .. | .extract .. | .convert .. => true
  | _ => false

theorem noEnter_r {α : Type} (r : Result α) (g : α → Value) (f : FuncId) (args : Array Value) (w' : World) : (r.andThen fun x w => .ok (Next.value (g x)) w) ≠ .ok (.enter f args) w' := by
  cases r <;> simp [Result.andThen]

theorem noEnter_v (s : Sem Value) (w : World) (f : FuncId) (args : Array Value) (w' : World) : (do pure (Next.value (← s)) : Sem Next).run P w ≠ .ok (.enter f args) w' := by
  rw [Sem.run_bind]
  exact noEnter_r _ (fun x => x) _ _ _

theorem noEnter {o : Oper} (h : plainOp o.op = true) (ρ : Operand → Value) (w : World) (f : FuncId) (args : Array Value) (w' : World) : (execOp ρ o).run P w ≠ .ok (.enter f args) w' := by
  unfold execOp
  cases ho : o.op <;> rw [ho] at h <;> first | (cases h; done) | exact noEnter_v _ _ _ _ _ | skip
  case move => simp [go_sem]
  case assign => simp [go_sem]
  case pick c a b =>
    show Sem.run P (do let x ← asBool (ρ c); pure (Next.value (if x = true then ρ a else ρ b))) w ≠ _
    rw [Sem.run_bind]
    exact noEnter_r _ (fun x => if x = true then ρ a else ρ b) _ _ _


section
variable {o : Oper} {rest : List Oper} {k : Nat} {Q : Act → Prop} {a : Act}
theorem wpLex_plain (hN : N.contains k = false) (hp : plainOp o.op = true) (hw : Region.wanted o (yielded ops a.tmps) = true)
    (h : ∀ K : Act → Prop, (∀ a, wpLex P ops W N Q (k + 1) rest a → K a) → o.quiet P a (fun w' => ∃ u : Later W, w' = on u) K) : wpLex P ops W N Q k (o :: rest) a := by
  unfold wpLex
  rw [if_neg (by rw [hN]; exact Bool.false_ne_true), if_pos hw]
  obtain ⟨v, h1, h2⟩ := h _ (fun _ h => h)
  refine ⟨v, fun u => ?_, h2⟩
  have h3 := h1 (on u) ⟨u, rfl⟩
  have hne := noEnter (P := P) hp a.eval (on u)
  unfold Oper.quietAt at h3 ⊢
  generalize (execOp a.eval o).run P (on u) = r at h3 hne ⊢
  cases r with
  | ok nx w' =>
    cases nx <;> simp only [Oper.quietUpon] at h3 ⊢
    case value u => exact h3
    case skip => exact h3
    case enter f args => exact absurd rfl (hne f args w')
  | halt x w' => simp only [Oper.quietUpon] at h3

theorem wpLex_call (hN : N.contains k = false) (hw : Region.wanted o (yielded ops a.tmps) = true)
    (h : ∀ K : Act → Prop, (∀ a, wpLex P ops W N Q (k + 1) rest a → K a) → quietL P o a W K) : wpLex P ops W N Q k (o :: rest) a := by
  unfold wpLex
  rw [if_neg (by rw [hN]; exact Bool.false_ne_true), if_pos hw]
  exact h _ (fun _ h => h)

theorem wpLex_skip (hN : N.contains k = false) (hw : Region.wanted o (yielded ops a.tmps) = false) (h : wpLex P ops W N Q (k + 1) rest (a.put o.dst undef)) : wpLex P ops W N Q k (o :: rest) a := by
  unfold wpLex
  rw [if_neg (by rw [hN]; exact Bool.false_ne_true), if_neg (by rw [hw]; exact Bool.false_ne_true)]
  exact h

theorem wpLex_new (hN : N.contains k = true) (h : wpLex P ops W N Q (k + 1) rest (a.put o.dst undef)) : wpLex P ops W N Q k (o :: rest) a := by
  unfold wpLex
  rw [if_pos hN]
  exact h

theorem wpLex_mono {Q Q' : Act → Prop} (hq : ∀ a, Q a → Q' a) : ∀ (k : Nat) (l : List Oper) (a : Act), wpLex P ops W N Q k l a → wpLex P ops W N Q' k l a
  | _, [], _, h => hq _ h
  | k, o :: l, a, h => by
    unfold wpLex at h ⊢
    split
    · rename_i h1; rw [if_pos h1] at h; exact wpLex_mono hq _ _ _ h
    · rename_i h1
      rw [if_neg h1] at h
      split
      · rename_i h2
        rw [if_pos h2] at h
        obtain ⟨v, hv, hn⟩ := h
        exact ⟨v, hv, wpLex_mono hq _ _ _ hn⟩
      · rename_i h2
        rw [if_neg h2] at h
        exact wpLex_mono hq _ _ _ h

theorem wpLex_nil (h : Q a) : wpLex P ops W N Q k [] a := h
end
attribute [go_sem] quietL

theorem Calls.laterL {f : FuncId} {args : Array Value} {u : Later W} {v : Value}
    (h : Calls P f args (on u) fun e w' => e = .returned v ∧ Below (on u).heap.size (on u) w') : Calls P f args (on u) fun e w' => e = .returned v ∧ ∃ u' : Later (on u), w' = on u' :=
  h.mono fun _ w' ⟨he, hb⟩ => ⟨he, ⟨w', hb⟩, rfl⟩

def isAlloc (T : Nat) : Op → Bool
  | .alloc t => t == T
  | _ => false

def newB (ops : Array Oper) (n : Nat) (i d T : Nat) : Bool :=
  decide (i < n) && match ops[i]? with
  | some o => isAlloc T o.op && o.dst == some d && o.guard.isNone && (List.range n).all fun j => j == i || match ops[j]? with | some oj => o.apart ops oj | none => true
  | none => false

theorem newAt {n i d T : Nat} {od : Nat → Obj} (h : newB ops n i d T = true) (hr : ∀ w, (Instr.alloc T true (.tuple #[])).run P w = .ok (.pointer (some ⟨w.heap.size, 0, none⟩)) (w.alloc (od d))) : NewAt P ops n od i d := by
  unfold newB at h
  simp only [Bool.and_eq_true, decide_eq_true_eq] at h
  obtain ⟨hin, h⟩ := h
  split at h
  · rename_i o ho
    simp only [Bool.and_eq_true, beq_iff_eq, List.all_eq_true, List.mem_range, Bool.or_eq_true, Option.isNone_iff_eq_none] at h
    obtain ⟨⟨⟨h1, h2⟩, h3⟩, h4⟩ := h
    have hop : o.op = .alloc T := by
      cases hoo : o.op <;> rw [hoo] at h1 <;> simp only [isAlloc] at h1 <;> first | cases h1 | skip
      rw [eq_of_beq h1]
    refine ⟨hin, o, ho, h2, h3, fun ρ w => ?_, fun j oj hj hji hoj => ?_⟩
    · unfold execOp
      rw [hop]
      show Sem.run P (do pure (Next.value (← Instr.alloc T true (.tuple #[])))) w = _
      rw [Sem.run_bind, hr]
      rfl
    · rcases h4 j hj with h5 | h5
      · exact absurd h5 hji
      · rw [hoj] at h5; exact h5
  · cases h

/-- ONE NEW VARIABLE: operation i lays it, slot d holds its address. -/
theorem region_free1 {id : Nat} {Q : Exit → Act → World → Prop} {a : Act} {W : World} {l : List Oper} (n i d T : Nat) (ob : Obj) (hm : P.follows .mixedOrders = true)
    (hB : Region.lexTailB .any l.toArray n = true) (hnew : newB l.toArray n i d T = true) (hr : ∀ w, (Instr.alloc T true (.tuple #[])).run P w = .ok (.pointer (some ⟨w.heap.size, 0, none⟩)) (w.alloc ob))
    (h : wpLex P l.toArray W [i] (fun ap => ∀ (b : Nat) (u : Later W), W.heap.size ≤ b → (on u).heap[b]? = some ob →
      wpList P l.toArray Q (l.drop n) (ap.put (some d) (.pointer (some ⟨b, 0, none⟩))) (on u)) 0 (l.take n) a) : (Code.region id l.toArray true).wp P Q a W :=
  wp_region_free n (fun _ => ob) [(i, d)] hm hB (fun x hx => by rw [List.mem_singleton.1 hx]; exact newAt hnew hr) (by simp) (fun x hx y hy _ => by rw [List.mem_singleton.1 hx, List.mem_singleton.1 hy])
    (by
      refine wpLex_mono (fun ap hap B u hB' _ => ?_) _ _ _ h
      have := hB' d (by simp)
      exact hap (B d) u this.1 this.2)

/-- TWO NEW VARIABLES. -/
theorem region_free2 {id : Nat} {Q : Exit → Act → World → Prop} {a : Act} {W : World} {l : List Oper} (n i d T j e T' : Nat) (ob ob' : Obj) (hm : P.follows .mixedOrders = true)
    (hB : Region.lexTailB .any l.toArray n = true) (hde : d ≠ e) (hnew : newB l.toArray n i d T = true) (hr : ∀ w, (Instr.alloc T true (.tuple #[])).run P w = .ok (.pointer (some ⟨w.heap.size, 0, none⟩)) (w.alloc ob))
    (hnew' : newB l.toArray n j e T' = true) (hr' : ∀ w, (Instr.alloc T' true (.tuple #[])).run P w = .ok (.pointer (some ⟨w.heap.size, 0, none⟩)) (w.alloc ob'))
    (h : wpLex P l.toArray W [i, j] (fun ap => ∀ (b b' : Nat) (u : Later W), W.heap.size ≤ b → (on u).heap[b]? = some ob → W.heap.size ≤ b' → (on u).heap[b']? = some ob' → b ≠ b' →
      wpList P l.toArray Q (l.drop n) ((ap.put (some e) (.pointer (some ⟨b', 0, none⟩))).put (some d) (.pointer (some ⟨b, 0, none⟩))) (on u)) 0 (l.take n) a) : (Code.region id l.toArray true).wp P Q a W :=
  wp_region_free n (fun x => if x = d then ob else ob') [(i, d), (j, e)] hm hB (fun x hx => by
      rcases List.mem_cons.1 hx with rfl | hx
      · exact newAt hnew (by rw [if_pos rfl]; exact hr)
      · rw [List.mem_singleton.1 hx]; exact newAt hnew' (by rw [if_neg (Ne.symm hde)]; exact hr')) (by simp [hde])
    (fun x hx y hy hxy => by
      rcases List.mem_cons.1 hx with rfl | hx <;> rcases List.mem_cons.1 hy with rfl | hy
      · rfl
      · rw [List.mem_singleton.1 hy] at hxy; exact absurd hxy hde
      · rw [List.mem_singleton.1 hx] at hxy; exact absurd hxy.symm hde
      · rw [List.mem_singleton.1 hx, List.mem_singleton.1 hy])
    (by
      refine wpLex_mono (fun ap hap B u hB' hne => ?_) _ _ _ h
      have h1 := hB' d (by simp)
      have h2 := hB' e (by simp)
      rw [if_pos rfl] at h1
      rw [if_neg (Ne.symm hde)] at h2
      exact hap (B d) (B e) u h1.1 h1.2 h2.1 h2.2 (hne d (by simp) e (by simp) hde))

end

/-! ### A block that is known whole -/
theorem held_cell {w : World} {b : Nat} {vs : Array Value} {t : TypeId} (h : w.heap[b]? = some (.cells vs t)) (i : Nat) : w.cell? ⟨b, i, none⟩ = vs[i]? := by simp [World.cell?, h]
theorem held_free {w : World} {b : Nat} {vs : Array Value} {t : TypeId} (h : w.heap[b]? = some (.cells vs t)) (i : Nat) : w.frozen? ⟨b, i, none⟩ = false := by simp [World.frozen?, h]
theorem held_lt {w : World} {b : Nat} {o : Obj} (h : w.heap[b]? = some o) : b < w.heap.size := (Array.getElem?_eq_some_iff.1 h).1
theorem held_set {w : World} {b : Nat} {vs : Array Value} {t : TypeId} (h : w.heap[b]? = some (.cells vs t)) (i : Nat) (v : Value) : (w.setCell ⟨b, i, none⟩ v).heap[b]? = some (.cells (vs.setIfInBounds i v) t) := by
  have hlt := held_lt h
  have h' : w.heap[b] = .cells vs t := by simpa [Array.getElem?_eq_getElem hlt] using h
  show (w.heap.modify b _)[b]? = _
  rw [Array.getElem?_eq_getElem (by simpa using hlt), Array.getElem_modify_self, h']
  rfl
theorem held_on {W : World} {b : Nat} {o : Obj} (u : Later W) (h : W.heap[b]? = some o) : (on u).heap[b]? = some o := by
  show u.w.heap[b]? = _; rw [u.b.block b (held_lt h)]; exact h

/-- A new variable of two cells, once it is stored into. -/
theorem stored2 {W : World} {u : Later W} {b : Nat} {x0 x1 : Value} {t : TypeId} (hb : W.heap.size ≤ b) (h : (on u).heap[b]? = some (.cells #[x0, x1] t)) (v0 v1 : Value) :
    ∃ u' : Later W, ((on u).setCell ⟨b, 0, none⟩ v0).setCell ⟨b, 1, none⟩ v1 = on u' ∧ (on u').heap[b]? = some (.cells #[v0, v1] t) :=
  ⟨⟨_, (u.b.setCell (p := ⟨b, 0, none⟩) hb v0).setCell (p := ⟨b, 1, none⟩) hb v1⟩, rfl, held_set (held_set h 0 v0) 1 v1⟩

theorem below_on {w W : World} (h : Below w.heap.size w W) (u : Later W) : Below w.heap.size w (on u) := h.trans (u.b.mono h.size)
theorem below_alloc {w W : World} (h : Below w.heap.size w W) (o : Obj) : Below w.heap.size w (W.alloc o) := h.alloc h.size o
theorem below_set {w W : World} (h : Below w.heap.size w W) {p : Addr} (hp : w.heap.size ≤ p.block) (v : Value) : Below w.heap.size w (W.setCell p v) := h.setCell hp v
theorem below_drew {w W : World} (h : Below w.heap.size w W) : Below w.heap.size w W.drew := h.drew

/-- NO NEW VARIABLE: the walk in the order of the text, then the last operations from operation n on. -/
theorem region_tail {P : Program} {id : Nat} {Q : Exit → Act → World → Prop} {a : Act} {W : World} {l : List Oper} (n : Nat) (hm : P.follows .mixedOrders = true)
    (hB : Region.lexTailB .any l.toArray n = true) (h : wpLex P l.toArray W [] (fun ap => ∀ u : Later W, wpList P l.toArray Q (l.drop n) ap (on u)) 0 (l.take n) a) : (Code.region id l.toArray true).wp P Q a W :=
  wp_region_free n (fun _ => .cells #[] 0) [] hm hB (fun x hx => by cases hx) (by simp) (fun x hx => by cases hx) (wpLex_mono (fun ap hap B u _ _ => hap u) _ _ _ h)

theorem held_set_other {w : World} {b b' : Nat} {o : Obj} (h : w.heap[b]? = some o) (hne : b ≠ b') (i : Nat) (v : Value) : (w.setCell ⟨b', i, none⟩ v).heap[b]? = some o := by
  rw [Below.heap_setCell _ _ _ _ hne]; exact h

/-- Two new variables of two cells, once they are stored into. -/
theorem stored22 {W : World} {u : Later W} {b b' : Nat} {x0 x1 y0 y1 : Value} {t t' : TypeId} (hb : W.heap.size ≤ b) (h : (on u).heap[b]? = some (.cells #[x0, x1] t)) (hb' : W.heap.size ≤ b') (h' : (on u).heap[b']? = some (.cells #[y0, y1] t'))
    (hne : b ≠ b') (v0 v1 v2 v3 : Value) :
    ∃ u' : Later W, ((((on u).setCell ⟨b, 0, none⟩ v0).setCell ⟨b, 1, none⟩ v1).setCell ⟨b', 0, none⟩ v2).setCell ⟨b', 1, none⟩ v3 = on u' ∧ (on u').heap[b]? = some (.cells #[v0, v1] t) ∧ (on u').heap[b']? = some (.cells #[v2, v3] t') := by
  obtain ⟨u1, e1, h1⟩ := stored2 hb h v0 v1
  rw [e1]
  have h2 : (on u1).heap[b']? = some (.cells #[y0, y1] t') := by rw [← e1]; exact held_set_other (held_set_other h' (Ne.symm hne) _ _) (Ne.symm hne) _ _
  obtain ⟨u2, e2, h3⟩ := stored2 hb' h2 v2 v3
  rw [e2]
  exact ⟨u2, rfl, by rw [← e2]; exact held_set_other (held_set_other h1 hne _ _) hne _ _, h3⟩

/-- The later world in which the new variable at block b holds v0, v1. -/
def st2 {W : World} (u : Later W) {b : Nat} (hb : W.heap.size ≤ b) (v0 v1 : Value) : Later W :=
  ⟨((on u).setCell ⟨b, 0, none⟩ v0).setCell ⟨b, 1, none⟩ v1, (u.b.setCell (p := ⟨b, 0, none⟩) hb v0).setCell (p := ⟨b, 1, none⟩) hb v1⟩
theorem st2_eq {W : World} (u : Later W) {b : Nat} (hb : W.heap.size ≤ b) (v0 v1 : Value) : ((on u).setCell ⟨b, 0, none⟩ v0).setCell ⟨b, 1, none⟩ v1 = on (st2 u hb v0 v1) := rfl
theorem st2_held {W : World} {u : Later W} {b : Nat} (hb : W.heap.size ≤ b) {x0 x1 : Value} {t : TypeId} (h : (on u).heap[b]? = some (.cells #[x0, x1] t)) (v0 v1 : Value) : (on (st2 u hb v0 v1)).heap[b]? = some (.cells #[v0, v1] t) :=
  held_set (held_set h 0 v0) 1 v1
theorem st2_c0 {W : World} {u : Later W} {b : Nat} (hb : W.heap.size ≤ b) {x0 x1 : Value} {t : TypeId} (h : (on u).heap[b]? = some (.cells #[x0, x1] t)) (v0 v1 : Value) : (on (st2 u hb v0 v1)).cell? ⟨b, 0, none⟩ = some v0 := held_cell (st2_held hb h v0 v1) 0
theorem st2_c1 {W : World} {u : Later W} {b : Nat} (hb : W.heap.size ≤ b) {x0 x1 : Value} {t : TypeId} (h : (on u).heap[b]? = some (.cells #[x0, x1] t)) (v0 v1 : Value) : (on (st2 u hb v0 v1)).cell? ⟨b, 1, none⟩ = some v1 := held_cell (st2_held hb h v0 v1) 1

end Go.Proofs.YtbghfcllicfnpaaGreatDoor
