/-
  Says: append, copy, len, cap.
-/
import Derived.Test.YtdnekeegpenioaaDoorVx6
set_option linter.unusedVariables false
set_option linter.unusedSimpArgs false
set_option linter.unusedSectionVars false
/-! append, copy, len, cap. -/
namespace Go.Vx
variable [Syms]
open Go.RowKit

section
variable {P : Program} {B : Base} {β : Nat → Ren} {V : VW} {w : World}

theorem rowD_spec {xd : TypeDesc} (h : rowD xd = true) : (∃ e, xd = .slice e) ∨ xd = .string := by
  unfold rowD at h
  split at h
  · exact .inl ⟨_, rfl⟩
  · exact .inr rfl
  · cases h

theorem run_appendRoom {argTypes : Array TypeId} {st xt e ty : TypeId} {xd : TypeDesc} {sz : Nat} (h0 : argTypes[0]? = some st) (h1 : argTypes[1]? = some xt) (hu : P.underlying st = some (.slice e))
    (hx : P.underlying xt = some xd) (hxd : rowD xd = true) (hsz : sizeA P e = some sz) {base : Option Addr} {sLen sCap n : Nat} {x : Value} {new : List Value} {w' : World}
    (hl : (Builtin.lenOf x).run P w = .ok n w) (hf : (Builtin.firstCells sz n x).run P w = .ok ⟨new⟩ w) (hr : sLen + n ≤ sCap)
    (hst : ∀ a, base = some a → (storeCells (a.add (sLen * sz)) new).run P w = .ok () w') (hn : base = none → w' = w) :
    (Builtin.append_ argTypes ty #[.slice base sLen sCap, x]).run P w = .ok (.slice base (sLen + n) sCap) w' := by
  cases base with
  | none =>
    have := hn rfl
    subst this
    rcases rowD_spec hxd with ⟨xe, rfl⟩ | rfl <;> simp [Builtin.append_, h0, h1, run_underlying hu, run_underlying hx, run_sizeA hsz, hl, hr, hf]
  | some a =>
    have := hst a rfl
    rcases rowD_spec hxd with ⟨xe, rfl⟩ | rfl <;> simp [Builtin.append_, h0, h1, run_underlying hu, run_underlying hx, run_sizeA hsz, hl, hr, hf, this]

theorem zeroCells_length (z : Array Value) (n : Nat) : (Builtin.zeroCells z n).toList.length = n * z.size := by simp [Builtin.zeroCells]

theorem run_appendGrow {argTypes : Array TypeId} {st xt e ty : TypeId} {xd : TypeDesc} {i : TypeInfo} {z : Value} (h0 : argTypes[0]? = some st) (h1 : argTypes[1]? = some xt) (hu : P.underlying st = some (.slice e))
    (hx : P.underlying xt = some xd) (hxd : rowD xd = true) (hi : P.info? e = some i) (hz : i.zero = some z) (hby : i.bytes ≤ 4096) {base : Option Addr} {sLen sCap n : Nat} {x : Value} {old new : List Value}
    (hl : (Builtin.lenOf x).run P w = .ok n w) (ho : (Builtin.firstCells i.size sLen (.slice base sLen sCap)).run P w.drew = .ok ⟨old⟩ w.drew) (hf : (Builtin.firstCells i.size n x).run P w.drew = .ok ⟨new⟩ w.drew)
    (hg : sCap < sLen + n) (hsm : sLen + n < 65536) :
    ∃ cap, sLen + n ≤ cap ∧ (Builtin.append_ argTypes ty #[.slice base sLen sCap, x]).run P w =
      .ok (.slice (some ⟨w.heap.size, 0, none⟩) (sLen + n) cap) (w.drew.alloc (.cells ⟨old ++ (new ++ (Builtin.zeroCells z.cells (cap - (sLen + n))).toList)⟩ e)) := by
  have hn : ¬ (sLen + n ≤ sCap) := by omega
  have h63' : ¬ (9223372036854775807 < ((sLen : Int) + (n : Int))) := by omega
  have hns := nextslicecap_le hg
  have hmul : Builtin.nextslicecap (sLen + n) sCap * i.bytes ≤ (2 * (sLen + n)) * 4096 := Nat.mul_le_mul hns hby
  have h48' : ¬ (281474976710656 < Builtin.nextslicecap (sLen + n) sCap * i.bytes) := by omega
  refine ⟨grownCap w (sLen + n) sCap e, by unfold grownCap Question.cut; exact Nat.le_add_right _ _, ?_⟩
  have harr : (⟨old ++ (new ++ (Builtin.zeroCells z.cells (grownCap w (sLen + n) sCap e - (sLen + n))).toList)⟩ : Array Value) = ⟨old⟩ ++ ⟨new⟩ ++ Builtin.zeroCells z.cells (grownCap w (sLen + n) sCap e - (sLen + n)) := by
    apply Array.ext'; simp
  rw [harr]
  rcases rowD_spec hxd with ⟨xe, rfl⟩ | rfl <;> simp [Builtin.append_, h0, h1, run_underlying hu, run_underlying hx, sizeOf, typeInfo, zeroValue, hi, hz, hl, hn, h63', h48', Question.forced, hf, ho, newRow, grownCap] <;> (congr 2; apply Array.ext'; simp)

/-- What is brought. -/
theorem bring_ok (h : WR P B β V w) {sz n m : Nat} {x x' : Value} {new : List Value} (hx : VR β x x') (hl : bringLen x = some m) (hnm : n ≤ m) (hb : bringN V sz n x = some new) :
    ∃ new', VRs β new new' ∧ (Builtin.lenOf x').run P w = .ok m w ∧ ∀ w2 : World, w2.heap = w.heap → (Builtin.firstCells sz n x').run P w2 = .ok ⟨new'⟩ w2 := by
  unfold bringN at hb
  split at hb
  · rename_i n' c'
    cases hb
    have hxe := hx.of_atom rfl
    subst hxe
    refine ⟨[], .nil, ?_, fun w2 _ => rfl⟩
    simp only [bringLen] at hl
    split at hl
    · rename_i h0
      have h0 := Nat.eq_of_beq_eq_true h0
      cases hl; subst h0; rfl
    · cases hl
  · rename_i b off n' c'
    cases hl
    split at hb
    · rename_i c hrow
      obtain ⟨ob, hg, hne, hrel⟩ := rowOf_rel (P := P) hrow
      obtain ⟨rb, cp, sh, o', rfl, hbe, hbl, ho, _, _⟩ := h.sl hx hg hne
      obtain ⟨e, fz, ho⟩ := hrel ho
      obtain ⟨pre, mid, post, fr, rfl, rfl, hr, _, _⟩ := ho.inv
      unfold bringAt at hb
      split at hb
      · rename_i hle
        have hle := Nat.le_of_ble_eq_true hle
        rw [lenL_eq] at hle
        cases hb
        rw [takeL_eq, dropL_eq]
        refine ⟨(mid.drop off).take (n * sz), (hr.drop off).take _, rfl, fun w2 hw2 => ?_⟩
        exact row_load (P := P) (w := w2) (by rw [hw2]; exact hbl) off (n * sz) (by rw [hr.length]; exact hle)
      · cases hb
    · cases hb
  · rename_i s
    cases hl
    split at hb
    · rename_i hle
      cases hb
      have hxe := hx.of_atom rfl
      subst hxe
      refine ⟨_, VRs.map (g := fun b => .int .u8 b.toNat) (fun _ _ => .atom rfl), rfl, fun w2 _ => ?_⟩
      have hle := Nat.le_of_ble_eq_true hle
      simp only [Builtin.firstCells, Sem.run_pure]
      congr 1
      apply Array.ext'
      have hd : (s.extract 0 n).data.toList = s.data.toList.take n := by
        simp [ByteArray.extract, ByteArray.copySlice]
      simp [hd]
    · cases hb
  · cases hb

theorem zOk_spec {e : TypeId} {sz : Nat} (h : zOk P e sz = true) : ∃ i z, P.info? e = some i ∧ i.zero = some z ∧ (cellsL z).length = sz := by
  unfold zOk at h
  split at h
  · rename_i l hl
    obtain ⟨i, z, h1, h2, h3, _⟩ := zeroL_spec hl
    exact ⟨i, z, h1, h2, by rw [h3]; exact Nat.eq_of_beq_eq_true h⟩
  · cases h
theorem growOk_spec {e : TypeId} {sz m : Nat} (h : growOk P e sz m = true) : m < 65536 ∧ ∃ i z, P.info? e = some i ∧ i.zero = some z ∧ (cellsL z).length = sz ∧ i.bytes ≤ 4096 := by
  unfold growOk at h
  simp only [Bool.and_eq_true] at h
  obtain ⟨h1, h2, h3⟩ := h
  obtain ⟨i, z, hi, hz, hl⟩ := zOk_spec h3
  refine ⟨blt_lt h1, i, z, hi, hz, hl, ?_⟩
  have := Nat.le_of_ble_eq_true h2
  simpa [bytesA, hi] using this
theorem optS_spec {v u : Value} {x : Option VW} {V' : VW} (h : optS v x = .val u V') : x = some V' ∧ u = v := by
  cases x with
  | none => cases h
  | some y => cases h; exact ⟨rfl, rfl⟩

theorem WR.drewW (h : WR P B β V w) : WR P B β V w.drew := h.drew rfl rfl rfl rfl

theorem ObjR.asRow {cp sh : Nat} {l : List Value} {n : Nat} {e : TypeId} {o' : Obj} (h : ObjR P β cp sh (.cells l e false) o') (hn : n = l.length) : ObjR P β cp sh (asRow l n e) o' := by
  unfold Vx.asRow
  split
  · exact .grow (by rw [revOn_eq, List.append_nil, List.length_reverse]; exact hn) (by rw [revOn_eq, List.append_nil, List.reverse_reverse]; exact h)
  · exact h
theorem ObjR.grow' {cp sh : Nat} {rc : List Value} {n : Nat} {e : TypeId} {o' : Obj} (h : ObjR P β cp sh (.grow rc n e) o') : n = rc.length ∧ ObjR P β cp sh (.cells rc.reverse e false) o' := by
  cases h with
  | grow hn h => exact ⟨hn, h⟩
theorem to_row {V1 : VW} {l : List Value} {e : TypeId} {o2 : VObj} {m : Nat} {v' : Value} (hs : V1.size < top) (hf : V1.floor ≤ V1.size) (hg : B.V0.size ≤ V1.size) (ho : ∀ β cp sh o', ObjR P β cp sh (.cells l e false) o' → ObjR P β cp sh o2 o')
    (h : WR P B β (V1.push (.cells l e false)) w) (hv : VR β (slTo m BIG V1.size) v') : WR P B β (V1.push o2) w := by
  cases hv with
  | atom h => simp [Vx.atom, slTo] at h
  | sl h1 _ _ => exact h.recast hs hf hg ho h1
  | slD h1 _ _ =>
    have := h.dead _ h1
    rw [VW.get_push hs, if_pos rfl] at this
    cases this
theorem append_ok (h : WR P B β V w) {argTypes : Array TypeId} {ty : TypeId} {s s' x x' : Value} (hs : VR β s s') (hx : VR β x x') {v : Value} {V' : VW} (hp : appendGo P V argTypes s x = .val v V') :
    ∃ β' v' w', Ext β β' ∧ WR P B β' V' w' ∧ VR β' v v' ∧ (Builtin.append_ argTypes ty #[s', x']).run P w = .ok v' w' := by
  unfold appendGo at hp
  split at hp
  · rename_i st xt h0 h1
    split at hp
    · rename_i e sz xd hes hxu
      obtain ⟨hu, hsz⟩ := elemS_spec hes
      split at hp
      · cases hp
      · rename_i hxd
        have hxd : rowD xd = true := by simpa using hxd
        split at hp
        · rename_i n hbl
          split at hp
          · rename_i new hbr
            obtain ⟨new', hN, hlen, hfirst⟩ := bring_ok h hx hbl (Nat.le_refl _) hbr
            unfold appendNew at hp
            split at hp
            · rename_i base len cap
              split at hp
              · rename_i hc
                simp only [Bool.and_eq_true] at hc
                obtain ⟨⟨⟨hz0, hln⟩, hone⟩, htop⟩ := hc
                have hz0 := blt_lt hz0
                have hln := Nat.eq_of_beq_eq_true hln
                rw [lenL_eq] at hln
                rw [allL_eq] at hone
                have htop := blt_lt htop
                have hsz' : sizeT P e = sz := by unfold sizeT; rw [hsz]; rfl
                have hcapB : ∀ cp, capR cp BIG = cp := fun cp => by unfold capR; rw [if_neg (by rw [half_eq, BIG_eq]; omega)]; omega
                -- a new row
                have grow : ∀ (old old' : List Value) (rbase : Option Addr) (rcap : Nat), VRs β old old' → old.length = len * sz → growOk P e sz (len + n) = true → rcap < len + n →
                    (∀ w2 : World, w2.heap = w.heap → (Builtin.firstCells sz len (.slice rbase len rcap)).run P w2 = .ok ⟨old'⟩ w2) →
                    ∀ (β1 : Nat → Ren) (V1 : VW), Ext β β1 → WR P B β1 V1 w → V1.size < top →
                    ∃ β' v' w', Ext β β' ∧ WR P B β' (V1.push (.cells (old ++ new) e false)) w' ∧ VR β' (slTo (len + n) BIG V1.size) v' ∧ (Builtin.append_ argTypes ty #[.slice rbase len rcap, x']).run P w = .ok v' w' := by
                  intro old old' rbase rcap hO hOl hgr hrc hold β1 V1 hx1 hW1 hV1
                  obtain ⟨hsm, i, z, hi, hzv, hzl, hby⟩ := growOk_spec hgr
                  have hisz : i.size = sz := by have := hsz; simp [sizeA, hi] at this; exact this
                  obtain ⟨cap', hle, hrun⟩ := run_appendGrow (w := w) (ty := ty) h0 h1 hu hxu hxd hi hzv hby (base := rbase) (sLen := len) (sCap := rcap) hlen (by rw [hisz]; exact hold _ rfl) (by rw [hisz]; exact hfirst _ rfl) hrc hsm
                  have hobj : ObjR P β1 cap' 0 (.cells (old ++ new) e false) (.cells ⟨old' ++ (new' ++ (Builtin.zeroCells z.cells (cap' - (len + n))).toList)⟩ e (0, 0)) := by
                    have hlz : (Builtin.zeroCells z.cells (cap' - (len + n))).toList.length = (cap' - (len + n)) * sz := by rw [zeroCells_length, cells_eq]; simp [hzl]
                    have := ObjR.cells (P := P) (β := β1) (cp := cap') (sh := 0) (e := e) (fz := false) (pre := []) (mid := old' ++ new') (post := (Builtin.zeroCells z.cells (cap' - (len + n))).toList) (fr := (0, 0)) rfl
                      ((hO.append hN).mono hx1) (by
                        rw [hsz', List.length_append, hO.length, hN.length, hOl, hln, hlz, ← Nat.add_mul, ← Nat.add_mul]
                        exact Nat.le_of_eq (by congr 1; omega)) (fun _ => rfl)
                    simpa using this
                  obtain ⟨β', a1, a2, a3⟩ := new_ok hW1.drewW hV1 cap' 0 hobj
                  refine ⟨β', _, _, hx1.trans a1, a2, ?_, hrun⟩
                  have := VR.sl (β := β') (o := 0) (n := len + n) (c := BIG) a3 (by rw [hcapB]; exact hle) (fun _ => ⟨Nat.le_refl _, by omega⟩)
                  rw [hcapB] at this
                  exact this
                unfold appendAt at hp
                split at hp
                · -- nil
                  split at hp
                  · rename_i hc0
                    simp only [Bool.and_eq_true] at hc0
                    have hcap0 := Nat.eq_of_beq_eq_true hc0.1
                    have hlen0 := Nat.eq_of_beq_eq_true hc0.2
                    subst hcap0; subst hlen0
                    have hse := hs.of_atom rfl
                    subst hse
                    split at hp
                    · rename_i hn0
                      have hn0 := Nat.eq_of_beq_eq_true hn0
                      subst hn0
                      cases hp
                      exact ⟨β, _, w, .refl _, h, .atom rfl, run_appendRoom h0 h1 hu hxu hxd hsz hlen (hfirst w rfl) (by omega) (fun a ha => by cases ha) (fun _ => rfl)⟩
                    · rename_i hn0
                      have hn0 : n ≠ 0 := fun hh => by subst hh; simp at hn0
                      split at hp
                      · rename_i hgr
                        obtain ⟨g1, g2, g3⟩ := newGo_spec hp
                        subst g2; subst g3
                        have := grow [] [] none 0 .nil (by simp) (by simpa using hgr) (by omega) (fun w2 _ => rfl) β V (.refl _) h g1
                        simpa using this
                      · cases hp
                  · cases hp
                · -- a row
                  rename_i b off
                  split at hp
                  · rename_i c e' fz hg
                    obtain ⟨rb, cp, sh, o', hse, hbe, hb, ho, hn1, hn2⟩ := h.sl hs hg nofun
                    subst hse
                    obtain ⟨pre, mid, post, fr, rfl, rfl, hr, hcap, hfz⟩ := ho.inv
                    split at hp
                    · cases hp
                    · rename_i hle
                      have hle : off + len * sz ≤ c.length := by simpa [lenL_eq] using hle
                      have hold : ∀ w2 : World, w2.heap = w.heap → ∀ rc, (Builtin.firstCells sz len (.slice (some ⟨rb, off + pre.length, none⟩) len rc)).run P w2 = .ok ⟨(mid.drop off).take (len * sz)⟩ w2 := fun w2 hw2 rc =>
                        row_load (P := P) (w := w2) (by rw [hw2]; exact hb) off (len * sz) (by rw [hr.length]; exact hle)
                      split at hp
                      · rename_i hn0
                        have hn0 := Nat.eq_of_beq_eq_true hn0
                        subst hn0
                        cases hp
                        have hnew : new' = [] := by
                          have := hN.length; rw [hln] at this; simpa using this
                        subst hnew
                        refine ⟨β, _, w, .refl _, h, ?_, run_appendRoom h0 h1 hu hxu hxd hsz hlen (hfirst w rfl) (by omega) (fun a ha => rfl) (fun _ => rfl)⟩
                        exact hs
                      · rename_i hn0
                        have hn0 : n ≠ 0 := fun hh => by subst hh; simp at hn0
                        have hOR : VRs β ((c.drop off).take (len * sz)) ((mid.drop off).take (len * sz)) := (hr.drop off).take _
                        have hOl : ((c.drop off).take (len * sz)).length = len * sz := by simp; omega
                        split at hp
                        · rename_i hch
                          have hch := blt_lt hch
                          have hcr : capR cp cap = cap := if_pos hch
                          split at hp
                          · rename_i hroom
                            have hroom := Nat.le_of_ble_eq_true hroom
                            obtain ⟨hwr, rfl⟩ := optS_spec hp
                            obtain ⟨w', hw1, hw2⟩ := write_ok h hwr hbe hN hone
                            refine ⟨β, _, w', .refl _, hw2, ?_, run_appendRoom h0 h1 hu hxu hxd hsz hlen (hfirst w rfl) (by rw [hcr]; exact hroom) (fun a ha => by
                              cases ha
                              rw [addr_add, show off + pre.length + len * sz = off + len * sz + pre.length from by omega]
                              exact hw1) (fun hh => by cases hh)⟩
                            exact .sl hbe (by rw [hcr]; exact hroom) hn2
                          · rename_i hroom
                            have hroom : cap < len + n := by
                              rcases Nat.lt_or_ge cap (len + n) with hh | hh
                              · exact hh
                              · rw [Nat.ble_eq_true_of_le hh] at hroom; exact absurd rfl hroom
                            split at hp
                            · rename_i hgr
                              obtain ⟨g1, g2, g3⟩ := newGo_spec hp
                              subst g2; subst g3
                              rw [appL_eq, takeL_eq, dropL_eq]
                              exact grow _ _ _ _ hOR hOl hgr (by rw [hcr]; exact hroom) (fun w2 hw2 => hold w2 hw2 _) β V (.refl _) h g1
                            · cases hp
                        · rename_i hch
                          have hch : half ≤ cap := by
                            rcases Nat.lt_or_ge cap half with hc | hc
                            · rw [blt_tt hc] at hch; exact absurd rfl hch
                            · exact hc
                          split at hp
                          · rename_i hcond
                            simp only [Bool.and_eq_true, Bool.not_eq_true'] at hcond
                            obtain ⟨⟨⟨⟨⟨⟨hoff, hcB⟩, hfz'⟩, hee⟩, hfl⟩, hgr⟩, hVt⟩ := hcond
                            have hoff := Nat.eq_of_beq_eq_true hoff
                            have hcB := Nat.le_of_ble_eq_true hcB
                            have hee := Nat.eq_of_beq_eq_true hee
                            have hfl := Nat.le_of_ble_eq_true hfl
                            have hVt := blt_lt hVt
                            subst hee
                            have hfr := hfz hfz'
                            subst hfr
                            obtain ⟨hc1, hc2⟩ := hn2 hch
                            have hcr : capR cp cap = cp - (BIG - cap) := if_neg (by omega)
                            have key : ∃ β' v' w', Ext β β' ∧ WR P B β' ((V.put b (.dfr true)).push (.cells ((c.drop off).take (len * sz) ++ new) e' false)) w' ∧ VR β' (slTo (len + n) BIG V.size) v' ∧ (Builtin.append_ argTypes ty #[.slice (some ⟨rb, off + pre.length, none⟩) len (capR cp cap), x']).run P w = .ok v' w' := by
                              rcases Nat.lt_or_ge (capR cp cap) (len + n) with hgrw | hroom
                              · exact grow _ _ _ _ hOR hOl hgr hgrw (fun w2 hw2 => hold w2 hw2 _) (upd β b .dead) (V.put b (.dfr true)) (.kill β b) (h.kill hbe hfl) hVt
                              · -- in place
                                rw [hsz'] at hcap
                                have hmul : (BIG - cap) * sz + (len + n) * sz ≤ cp * sz := by rw [← Nat.add_mul]; exact Nat.mul_le_mul_right _ (by omega)
                                have hadd : (len + n) * sz = len * sz + n * sz := Nat.add_mul _ _ _
                                have hNl : new'.length = n * sz := by rw [hN.length, hln]
                                have hfit : off + len * sz + new'.length ≤ mid.length + post.length := by rw [hNl]; omega
                                have hml : mid.length = c.length := hr.length
                                have hrun := run_storeCells_at P rb (off + pre.length + len * sz) e' new' 0 _ w hb (by simp; omega) (by
                                  have := hN.one hone
                                  simpa using this)
                                simp only [Nat.add_zero] at hrun
                                rw [putObj_setRow hb] at hrun
                                have hrow : (pre ++ (mid ++ post)).take (off + pre.length + len * sz) ++ new' ++ (pre ++ (mid ++ post)).drop (off + pre.length + len * sz + new'.length) =
                                    (pre ++ mid.take off) ++ (((mid.drop off).take (len * sz) ++ new') ++ (mid ++ post).drop (off + len * sz + new'.length)) := by
                                  rw [List.take_append, List.take_of_length_le (by omega : pre.length ≤ off + pre.length + len * sz), show off + pre.length + len * sz - pre.length = off + len * sz from by omega,
                                    List.take_append_of_le_length (by omega : off + len * sz ≤ mid.length), List.drop_append, List.drop_eq_nil_of_le (by omega : pre.length ≤ off + pre.length + len * sz + new'.length),
                                    show off + pre.length + len * sz + new'.length - pre.length = off + len * sz + new'.length from by omega, List.take_add]
                                  simp
                                rw [hrow] at hrun
                                have hx1 := Ext.kill β b
                                obtain ⟨m1, m2⟩ := h.move hbe hfl hVt (capR cp cap) (off + pre.length) (o := .cells ((c.drop off).take (len * sz) ++ new) e' false) (o' := .cells ⟨(pre ++ mid.take off) ++ (((mid.drop off).take (len * sz) ++ new') ++ (mid ++ post).drop (off + len * sz + new'.length))⟩ e' (0, 0))
                                  (.cells (by simp; omega) ((hOR.append hN).mono hx1) (by
                                    rw [hsz', hcr, List.length_append, hOR.length, hOl, List.length_drop, List.length_append, Nat.sub_mul]
                                    omega) (fun _ => rfl))
                                refine ⟨_, _, _, m2, m1, ?_, run_appendRoom h0 h1 hu hxu hxd hsz hlen (hfirst w rfl) hroom (fun a ha => by
                                  cases ha
                                  rw [addr_add]
                                  exact hrun) (fun hh => by cases hh)⟩
                                have := VR.sl (β := upd (upd β b .dead) V.size (.live rb (capR cp cap) (off + pre.length))) (o := 0) (n := len + n) (c := BIG) (upd_same _ _ _) (by rw [hcapB]; exact hroom) (fun _ => ⟨Nat.le_refl _, by omega⟩)
                                rw [hcapB, Nat.zero_add] at this
                                exact this
                            cases hp
                            obtain ⟨β', v', w', k1, k2, k3, k4⟩ := key
                            rw [appL_eq, takeL_eq, dropL_eq]
                            exact ⟨β', v', w', k1, to_row (V1 := V.put b (.dfr true)) hVt h.gsz h.grow (fun _ _ _ _ hq => hq.asRow (by
                              show (len + n) * sz = _
                              rw [List.length_append, hOl, hln, Nat.add_mul])) k2 k3, k3, k4⟩
                          · cases hp
                  · rename_i rc n0 e' hg
                    obtain ⟨rb, cp, sh, o', hse, hbe, hb, ho, hn1, hn2⟩ := h.sl hs hg nofun
                    subst hse
                    obtain ⟨hrn, ho⟩ := ho.grow'
                    obtain ⟨c, hcd⟩ : ∃ c, c = rc.reverse := ⟨_, rfl⟩
                    rw [← hcd] at ho
                    obtain ⟨pre, mid, post, fr, rfl, rfl, hr, hcap, hfz⟩ := ho.inv
                    split at hp
                    · cases hp
                    · rename_i hn0
                      have hn0 : n ≠ 0 := fun hh => by subst hh; simp at hn0
                      split at hp
                      · rename_i hcond
                        simp only [Bool.and_eq_true] at hcond
                        obtain ⟨⟨hoff0, hcapB0, hlen0⟩, ⟨hee, hfl⟩, hgr, hVt⟩ := hcond
                        have hoff0 := Nat.eq_of_beq_eq_true hoff0
                        have hcapB0 := Nat.eq_of_beq_eq_true hcapB0
                        have hlen0 := Nat.eq_of_beq_eq_true hlen0
                        have hee := Nat.eq_of_beq_eq_true hee
                        have hfl := Nat.le_of_ble_eq_true hfl
                        have hVt := blt_lt hVt
                        have hcl : c.length = len * sz := by rw [hcd, List.length_reverse, ← hrn, hlen0]
                        have hle : off + len * sz ≤ c.length := by omega
                        have hold : ∀ w2 : World, w2.heap = w.heap → ∀ rc, (Builtin.firstCells sz len (.slice (some ⟨rb, off + pre.length, none⟩) len rc)).run P w2 = .ok ⟨(mid.drop off).take (len * sz)⟩ w2 := fun w2 hw2 rc =>
                          row_load (P := P) (w := w2) (by rw [hw2]; exact hb) off (len * sz) (by rw [hr.length]; exact hle)
                        have hOR : VRs β ((c.drop off).take (len * sz)) ((mid.drop off).take (len * sz)) := (hr.drop off).take _
                        have hOl : ((c.drop off).take (len * sz)).length = len * sz := by simp; omega
                        have hch : half ≤ cap := by rw [hcapB0, half_eq, BIG_eq]; omega
                        have hcB : cap ≤ BIG := Nat.le_of_eq hcapB0
                        have hoff : off = (BIG - cap) * sz := by rw [hoff0, hcapB0, Nat.sub_self, Nat.zero_mul]
                        subst hee
                        have hfr := hfz rfl
                        subst hfr
                        obtain ⟨hc1, hc2⟩ := hn2 hch
                        have hcr : capR cp cap = cp - (BIG - cap) := if_neg (by omega)
                        have key : ∃ β' v' w', Ext β β' ∧ WR P B β' ((V.put b (.dfr true)).push (.cells ((c.drop off).take (len * sz) ++ new) e' false)) w' ∧ VR β' (slTo (len + n) BIG V.size) v' ∧ (Builtin.append_ argTypes ty #[.slice (some ⟨rb, off + pre.length, none⟩) len (capR cp cap), x']).run P w = .ok v' w' := by
                          rcases Nat.lt_or_ge (capR cp cap) (len + n) with hgrw | hroom
                          · exact grow _ _ _ _ hOR hOl hgr hgrw (fun w2 hw2 => hold w2 hw2 _) (upd β b .dead) (V.put b (.dfr true)) (.kill β b) (h.kill hbe hfl) hVt
                          · -- in place
                            rw [hsz'] at hcap
                            have hmul : (BIG - cap) * sz + (len + n) * sz ≤ cp * sz := by rw [← Nat.add_mul]; exact Nat.mul_le_mul_right _ (by omega)
                            have hadd : (len + n) * sz = len * sz + n * sz := Nat.add_mul _ _ _
                            have hNl : new'.length = n * sz := by rw [hN.length, hln]
                            have hfit : off + len * sz + new'.length ≤ mid.length + post.length := by rw [hNl]; omega
                            have hml : mid.length = c.length := hr.length
                            have hrun := run_storeCells_at P rb (off + pre.length + len * sz) e' new' 0 _ w hb (by simp; omega) (by
                              have := hN.one hone
                              simpa using this)
                            simp only [Nat.add_zero] at hrun
                            rw [putObj_setRow hb] at hrun
                            have hrow : (pre ++ (mid ++ post)).take (off + pre.length + len * sz) ++ new' ++ (pre ++ (mid ++ post)).drop (off + pre.length + len * sz + new'.length) =
                                (pre ++ mid.take off) ++ (((mid.drop off).take (len * sz) ++ new') ++ (mid ++ post).drop (off + len * sz + new'.length)) := by
                              rw [List.take_append, List.take_of_length_le (by omega : pre.length ≤ off + pre.length + len * sz), show off + pre.length + len * sz - pre.length = off + len * sz from by omega,
                                List.take_append_of_le_length (by omega : off + len * sz ≤ mid.length), List.drop_append, List.drop_eq_nil_of_le (by omega : pre.length ≤ off + pre.length + len * sz + new'.length),
                                show off + pre.length + len * sz + new'.length - pre.length = off + len * sz + new'.length from by omega, List.take_add]
                              simp
                            rw [hrow] at hrun
                            have hx1 := Ext.kill β b
                            obtain ⟨m1, m2⟩ := h.move hbe hfl hVt (capR cp cap) (off + pre.length) (o := .cells ((c.drop off).take (len * sz) ++ new) e' false) (o' := .cells ⟨(pre ++ mid.take off) ++ (((mid.drop off).take (len * sz) ++ new') ++ (mid ++ post).drop (off + len * sz + new'.length))⟩ e' (0, 0))
                              (.cells (by simp; omega) ((hOR.append hN).mono hx1) (by
                                rw [hsz', hcr, List.length_append, hOR.length, hOl, List.length_drop, List.length_append, Nat.sub_mul]
                                omega) (fun _ => rfl))
                            refine ⟨_, _, _, m2, m1, ?_, run_appendRoom h0 h1 hu hxu hxd hsz hlen (hfirst w rfl) hroom (fun a ha => by
                              cases ha
                              rw [addr_add]
                              exact hrun) (fun hh => by cases hh)⟩
                            have := VR.sl (β := upd (upd β b .dead) V.size (.live rb (capR cp cap) (off + pre.length))) (o := 0) (n := len + n) (c := BIG) (upd_same _ _ _) (by rw [hcapB]; exact hroom) (fun _ => ⟨Nat.le_refl _, by omega⟩)
                            rw [hcapB, Nat.zero_add] at this
                            exact this
                        cases hp
                        obtain ⟨β', v', w', k1, k2, k3, k4⟩ := key
                        exact ⟨β', v', w', k1, to_row (V1 := V.put b (.dfr true)) hVt h.gsz h.grow (fun _ _ _ _ hq => .grow (by
                          show (len + n) * sz = _
                          rw [revOn_eq, List.length_append, List.length_reverse, hln, ← hrn, hlen0, Nat.add_mul, Nat.add_comm]) (by
                            have : (revOn new rc).reverse = (c.drop off).take (len * sz) ++ new := by
                              rw [revOn_eq, List.reverse_append, List.reverse_reverse, hoff0, List.drop_zero, List.take_of_length_le (by omega), hcd]
                            rw [this]; exact hq)) k2 k3, k3, k4⟩
                      · cases hp
                  · cases hp
                · cases hp
              · cases hp
            · cases hp
          · cases hp
        · cases hp
    · cases hp
  · cases hp

theorem run_storeNil (a : Addr) : (storeCells a []).run P w = .ok () w := rfl

theorem copy_ok (h : WR P B β V w) {argTypes : Array TypeId} {ty : TypeId} {s s' x x' : Value} (hs : VR β s s') (hx : VR β x x') {v : Value} {V' : VW} (hp : copyGo P V argTypes s x = .val v V') :
    ∃ w', WR P B β V' w' ∧ VR β v v ∧ (Builtin.copy_ argTypes ty #[s', x']).run P w = .ok v w' := by
  unfold copyGo at hp
  split at hp
  · rename_i dt h0
    split at hp
    · rename_i e sz hes
      obtain ⟨hu, hsz⟩ := elemS_spec hes
      split at hp
      · rename_i base dLen dCap xn hxn
        split at hp
        · rename_i new hbr
          obtain ⟨new', hN, hlen, hfirst⟩ := bring_ok h hx hxn (Nat.min_le_left _ _) hbr
          have hs' : ∃ base' c', s' = .slice base' dLen c' ∧ (base.isSome = base'.isSome) := by
            cases hs with
            | atom _ => exact ⟨_, _, rfl, rfl⟩
            | sl _ _ _ => exact ⟨_, _, rfl, rfl⟩
            | slD _ _ _ => exact ⟨_, _, rfl, rfl⟩
          obtain ⟨base', c', rfl, hbb⟩ := hs'
          have hrun : ∀ w', (∀ a, base' = some a → (storeCells a new').run P w = .ok () w') → (base' = none → w' = w) →
              (Builtin.copy_ argTypes ty #[.slice base' dLen c', x']).run P w = .ok (goInt (Nat.min xn dLen)) w' := by
            intro w' hst hn
            cases base' with
            | none => have := hn rfl; subst this; simp [Builtin.copy_, h0, run_underlying hu, hlen, run_sizeA hsz, hfirst _ rfl]
            | some a => simp [Builtin.copy_, h0, run_underlying hu, hlen, run_sizeA hsz, hfirst _ rfl, hst a rfl]
          unfold copyAt at hp
          split at hp
          · rename_i hz
            have hz := Nat.eq_of_beq_eq_true hz
            rw [lenL_eq] at hz
            cases hp
            have hn0 : new' = [] := by have := hN.length; rw [hz] at this; exact List.length_eq_zero_iff.1 this
            subst hn0
            exact ⟨w, h, .atom rfl, hrun w (fun a _ => rfl) (fun _ => rfl)⟩
          · split at hp
            · rename_i b off
              split at hp
              · rename_i hone
                rw [allL_eq] at hone
                obtain ⟨hwr, rfl⟩ := optS_spec hp
                obtain ⟨ob, c, e', hg, hne, _⟩ := writeAt_spec (P := P) hwr
                obtain ⟨rb, cp, sh, o', hse, hbe, _⟩ := h.sl hs hg hne
                obtain ⟨w', hw1, hw2⟩ := write_ok h hwr hbe hN hone
                cases hse
                exact ⟨w', hw2, .atom rfl, hrun w' (fun a ha => by cases ha; exact hw1) (fun hh => by cases hh)⟩
              · cases hp
            · cases hp
        · cases hp
      · cases hp
    · cases hp
  · cases hp

theorem EsR.erase : ∀ {es es' : List MapEntry}, EsR β es es' → ∀ i, EsR β (es.eraseIdx i) (es'.eraseIdx i)
  | _, _, .nil, i => by simpa using EsR.nil
  | _, _, .cons hk hv t, 0 => by simpa using t
  | _, _, .cons hk hv t, i + 1 => by simpa using EsR.cons hk hv (t.erase i)
theorem arr_erase (l : List MapEntry) (i : Nat) : (⟨l⟩ : Array MapEntry).eraseIdxIfInBounds i = ⟨l.eraseIdx i⟩ := by
  unfold Array.eraseIdxIfInBounds
  split
  · apply Array.ext'
    simp
  · rename_i h
    rw [List.eraseIdx_of_length_le (by simpa using h)]
theorem delete_ok (h : WR P B β V w) {argTypes : Array TypeId} {ty : TypeId} {m m' k k' : Value} (hm : VR β m m') (hk : VR β k k') {v : Value} {V' : VW} (hp : deleteGo P V argTypes m k = .val v V') :
    ∃ w', WR P B β V' w' ∧ VR β v v ∧ (Builtin.delete_ argTypes ty #[m', k']).run P w = .ok v w' := by
  unfold deleteGo at hp
  split at hp
  · rename_i mt h0
    split at hp
    · rename_i kt et b hmo
      have hu := mapOf_spec hmo
      split at hp
      · cases hp
      · rename_i hfl
        have hfl : flat k = true := by simpa using hfl
        have hk' := hk.of_flat hfl
        subst hk'
        split at hp
        · rename_i es clock u1 u2 hg hc1 hc2
          obtain ⟨rb, cp, sh, o', hv', hbe, hb, ho⟩ := h.mp hm hg nofun
          obtain ⟨es', rfl, hE⟩ := ho.mapInv
          have hdk : ∃ d, P.underlying kt = some d := by
            cases hd : P.underlying kt with
            | some d => exact ⟨d, rfl⟩
            | none =>
              exfalso
              have hru := dr_run hc1 w
              have : (10000 : Nat) = 9999 + 1 := rfl
              rw [this] at hru
              unfold Instr.checkKey at hru
              simp [underlying, hd] at hru
          obtain ⟨d, hd⟩ := hdk
          have hck : ∀ b, (Instr.checkKey b 10000 kt k').run P w = .ok () w := fun b => by
            cases b
            · exact dr_run hc1 w
            · exact dr_run hc2 w
          split at hp
          · cases hp
          · rename_i hfl2
            have hfl2 : V.floor ≤ b := by simpa using hfl2
            have hrun : ∀ r' w', (Instr.findKey kt k' es').run P w = .ok r' w → ((match r' with
                | some (i, _) => setObj rb (.map ((⟨es'⟩ : Array MapEntry).eraseIdxIfInBounds i) clock)
                | none => setObj rb (.map ⟨es'⟩ clock)) : Sem Unit).run P w = .ok () w' → (Builtin.delete_ argTypes ty #[m', k']).run P w = .ok undef w' := by
              intro r' w' hr' hs
              subst hv'
              have e1 : (⟨es'⟩ : Array MapEntry).toList = es' := rfl
              cases r' with
              | none => simp [Builtin.delete_, h0, run_underlying hu, run_getObj (P := P) hb nofun, hck, hr', hs]; rfl
              | some p =>
                obtain ⟨i, u⟩ := p
                have hs2 : (setObj rb (.map (es'.eraseIdx i).toArray clock)).run P w = .ok () w' := by
                  have hs : (setObj rb (.map ((⟨es'⟩ : Array MapEntry).eraseIdxIfInBounds i) clock)).run P w = .ok () w' := hs
                  rw [arr_erase] at hs
                  exact hs
                simp [Builtin.delete_, h0, run_underlying hu, run_getObj (P := P) hb nofun, hck, hr', hs2]
                rfl
            split at hp
            · rename_i i v0 hka
              cases hp
              obtain ⟨r', h1, v', rfl, h2⟩ := keyAt_ok (w := w) hE hka
              refine ⟨w.putObj rb (.map ⟨es'.eraseIdx i⟩ clock), h.put hbe hfl2 (.map (hE.erase i)), .undef, hrun _ _ (findKey_run hd h1) ?_⟩
              rw [← arr_erase]
              exact run_setObj _ hb nofun
            · rename_i hka
              cases hp
              obtain ⟨r', h1, rfl⟩ := keyAt_ok (w := w) hE hka
              exact ⟨w.putObj rb (.map ⟨es'⟩ clock), h.put hbe hfl2 (.map hE), .undef, hrun _ _ (findKey_run hd h1) (run_setObj _ hb nofun)⟩
            · cases hp
        · cases hp
    · cases hp
  · cases hp

/-- The builtins. -/
theorem bi_ok (h : WR P B β V w) {o : Oper} {c : Call} {b : Builtin} (hoc : o.op = .call c) (hc : c.callee = .builtin b) {e ρ : Rho} (hρ : ∀ x ∈ c.args, VR β (e x) (ρ x)) {rec : Rec} {E : Env} {v : Value} {V' : VW}
    (hp : biGo b rec P E o c e V = .val v V') : Res P B β w (execOp ρ o) v V' := by
  obtain ⟨consts, hres⟩ : ∃ consts, execOp ρ o = invoke (.builtin b c.argTypes o.type consts) (c.args.map ρ) := by
    unfold execOp
    simp only [hoc]
    unfold resolve
    simp only [hc]
    exact ⟨_, rfl⟩
  have hfl : (∀ x ∈ c.args.toList, flat (e x) = true) → ofV V (drV P (execOp e o)) = .val v V' → Res P B β w (execOp ρ o) v V' := fun hall hd => by
    have hops : o.op.operands = c.args := by rw [hoc]; simp [Op.operands, Call.operands, hc]
    exact flat_ok h (fun cs bb hh => by rw [hoc] at hh; cases hh) (e := e) (fun x hx => hρ x (by rw [← hops]; exact hx)) (fun x hx => hall x (by rw [hops] at hx; simpa using hx)) hd
  unfold biGo at hp
  split at hp
  · rename_i s x hargs
    have ha : c.args.map ρ = #[ρ s, ρ x] := by apply Array.ext'; simp [hargs]
    obtain ⟨β', v', w', h1, h2, h3, h4⟩ := append_ok h (ty := o.type) (hρ s (by rw [← Array.mem_toList_iff, hargs]; simp)) (hρ x (by rw [← Array.mem_toList_iff, hargs]; simp)) hp
    refine ⟨β', v', w', h1, h2, h3, .inl ?_⟩
    rw [hres, ha]
    exact run_v h4
  · rename_i s x hargs
    have ha : c.args.map ρ = #[ρ s, ρ x] := by apply Array.ext'; simp [hargs]
    obtain ⟨w', h2, h3, h4⟩ := copy_ok h (ty := o.type) (hρ s (by rw [← Array.mem_toList_iff, hargs]; simp)) (hρ x (by rw [← Array.mem_toList_iff, hargs]; simp)) hp
    refine ⟨β, v, w', .refl _, h2, h3, .inl ?_⟩
    rw [hres, ha]
    exact run_v h4
  · rename_i m k hargs
    have ha : c.args.map ρ = #[ρ m, ρ k] := by apply Array.ext'; simp [hargs]
    obtain ⟨w', h2, h3, h4⟩ := delete_ok h (ty := o.type) (hρ m (by rw [← Array.mem_toList_iff, hargs]; simp)) (hρ k (by rw [← Array.mem_toList_iff, hargs]; simp)) hp
    refine ⟨β, v, w', .refl _, h2, h3, .inl ?_⟩
    rw [hres, ha]
    exact run_v h4
  · rename_i x hargs
    have ha : c.args.map ρ = #[ρ x] := by apply Array.ext'; simp [hargs]
    have hx := hρ x (by rw [← Array.mem_toList_iff, hargs]; simp)
    unfold lenGo at hp
    split at hp
    · rename_i a n cc el hex' htd
      cases hp
      rw [hex'] at hx
      obtain ⟨t, ht, hu⟩ : ∃ t, c.argTypes[0]? = some t ∧ P.underlying t = some (.slice el) := by
        cases h0 : c.argTypes[0]? with
        | none => rw [h0] at htd; cases htd
        | some t => rw [h0] at htd; exact ⟨t, rfl, htd⟩
      have hs' : ∃ a' c', ρ x = .slice a' n c' := by
        obtain ⟨y, hy⟩ : ∃ y, ρ x = y := ⟨_, rfl⟩
        rw [hy] at hx ⊢
        cases hx with
        | atom _ => exact ⟨_, _, rfl⟩
        | sl _ _ _ => exact ⟨_, _, rfl⟩
        | slD _ _ _ => exact ⟨_, _, rfl⟩
      obtain ⟨a', c', hs'⟩ := hs'
      refine Res.of h (v' := goInt n) ?_ (.atom rfl)
      rw [hres, ha]
      exact run_v (s := Builtin.len_ c.argTypes o.type #[ρ x]) (by simp [Builtin.len_, ht, run_underlying hu, hs'])
    · rename_i bb k el hex' htd
      split at hp
      · rename_i es clock hg
        cases hp
        rw [hex'] at hx
        obtain ⟨t, ht, hu⟩ : ∃ t, c.argTypes[0]? = some t ∧ P.underlying t = some (.map k el) := by
          cases h0 : c.argTypes[0]? with
          | none => rw [h0] at htd; cases htd
          | some t => rw [h0] at htd; exact ⟨t, rfl, htd⟩
        obtain ⟨rb, cp, sh, o', hv', _, hb, ho⟩ := h.mp hx hg nofun
        obtain ⟨es', rfl, hE⟩ := ho.mapInv
        refine Res.of h (v' := goInt es.length) ?_ (.atom rfl)
        rw [hres, ha]
        exact run_v (s := Builtin.len_ c.argTypes o.type #[ρ x]) (by simp [Builtin.len_, ht, run_underlying hu, hv', run_getObj (P := P) hb nofun, hE.length])
      · cases hp
    · split at hp
      · rename_i hf
        exact hfl (fun y hy => by rw [hargs] at hy; simp at hy; subst hy; exact hf) hp
      · cases hp
  · rename_i x hargs
    have ha : c.args.map ρ = #[ρ x] := by apply Array.ext'; simp [hargs]
    have hx := hρ x (by rw [← Array.mem_toList_iff, hargs]; simp)
    unfold capGo at hp
    split at hp
    · rename_i a n cc el hex' htd
      split at hp
      · rename_i hh
        have hh := blt_lt hh
        cases hp
        rw [hex'] at hx
        obtain ⟨t, ht, hu⟩ : ∃ t, c.argTypes[0]? = some t ∧ P.underlying t = some (.slice el) := by
          cases h0 : c.argTypes[0]? with
          | none => rw [h0] at htd; cases htd
          | some t => rw [h0] at htd; exact ⟨t, rfl, htd⟩
        have hs' : ∃ a', ρ x = .slice a' n cc := by
          obtain ⟨y, hy⟩ : ∃ y, ρ x = y := ⟨_, rfl⟩
          rw [hy] at hx ⊢
          cases hx with
          | atom _ => exact ⟨_, rfl⟩
          | sl _ _ _ => exact ⟨_, by rw [show capR _ cc = cc from if_pos hh]⟩
          | slD _ _ hc => exact ⟨_, by rw [hc hh]⟩
        obtain ⟨a', hs'⟩ := hs'
        refine Res.of h (v' := goInt cc) ?_ (.atom rfl)
        rw [hres, ha]
        exact run_v (s := Builtin.cap_ c.argTypes o.type #[ρ x]) (by simp [Builtin.cap_, ht, run_underlying hu, hs'])
      · cases hp
    · cases hp
  · split at hp
    · rename_i hf
      exact hfl (fun y hy => List.all_eq_true.1 hf y hy) hp
    · cases hp
  · split at hp
    · rename_i hf
      exact hfl (fun y hy => List.all_eq_true.1 hf y hy) hp
    · cases hp
  · cases hp
end
end Go.Vx
