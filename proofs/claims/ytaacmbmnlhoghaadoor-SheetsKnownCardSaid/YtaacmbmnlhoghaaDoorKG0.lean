/-
  Says: isUnit of two great sheets: what is asked.
-/
import Derived.Test.YtaacmbmnlhoghaaDoorKN0
import Derived.KernelRfl
set_option maxRecDepth 1000000
set_option linter.unusedVariables false
set_option linter.unusedSimpArgs false
namespace Go.Proofs.YtaacmbmnlhoghaaDoor
open Go Go.Vx
attribute [local instance] anyKeeps

def bitM (m j : Nat) : Bool := Nat.beq (Nat.mod (Nat.shiftRight m j) 2) 1
def mk_16 : Nat := 235508166573412147834925260804504201716936661117126237622861449786535202771865825235192295854767805739688480379013928601410196503177133619556250719733061359488385707537898985213406689384785388690001554777677654983082540529490854496157531738453340405386679260723916717830620173193716569099533645488539349844519230703897548025883846879260063410361040325249325016707660263448669734944237979506353905266140284279517188645878614930809415137773942719930857965792194024565830396649027117701837760180025407802378430627306163578109725817435115538836273615413874369218214254783330066943537060107066290060473508349720163044243114759344161351205110001967515857749048388748879541762942405937878275678346902963596917358599554450375991753516412429179145944211912460359967385395418274840000003922847934387250482224054169790983765920822460886147279843856054563795913064279182899610283464043162449499327162652751536513071543149794101235212526
noncomputable def A51_16 (args : List Value) : Option Value := match args with
  | [.agg ⟨[.int .i64 (.ofNat W), .int .i64 (.ofNat H)]⟩, .agg ⟨[.int .i64 (.ofNat id), .int .u8 (.ofNat e)]⟩] => (match Nat.beq W 16 && (Nat.beq H 16 && (Nat.blt id 1024 && Nat.blt e 3)) with | true => some (.bool (bitM mk_16 (Nat.add (Nat.mul 3 id) e))) | false => none)
  | _ => none
def mk_1 : Nat := 235527562960950108432090256472684305130300332909248175707907090842687498633410775902240519967812816991168118231634111713379118501762774727822299146317869426362050466162549337226106645553871617593874391928799676650999705646130021801729438373491600558441460024715165903962136651450767200503352488416812456341247389012497172480438245208673762838170137395221923062907223404215345002647853919976430939344324149306715385369517181192323870438999791847041345366750692449080762029619278867411037520307082252083986788847120176266702588903585567670870109156750787159159599742713465893635741698644715305249898232617663273098543483525274416733389551885445982288214532054769988142011473892751689076248117327652777959255648615842550595324242306552313584241724369573623616819368987502061445334342582781072891091728411300306178358264239789554412225615943067365075479515838353048451482428074526590783260141107986001429535043771333809439400166
noncomputable def A51_1 (args : List Value) : Option Value := match args with
  | [.agg ⟨[.int .i64 (.ofNat W), .int .i64 (.ofNat H)]⟩, .agg ⟨[.int .i64 (.ofNat id), .int .u8 (.ofNat e)]⟩] => (match Nat.beq W 1 && (Nat.beq H 256 && (Nat.blt id 1024 && Nat.blt e 3)) with | true => some (.bool (bitM mk_1 (Nat.add (Nat.mul 3 id) e))) | false => none)
  | _ => none

/-- The units, their cells and edges in turn. -/
noncomputable def unG (m n : Nat) : List Value :=
  Nat.rec (motive := fun _ => Nat → List Value) (fun _ => []) (fun _ ih j => Bool.rec (motive := fun _ => List Value) (ih (Nat.succ j)) (vi (Nat.div j 3) :: vu (Nat.mod j 3) :: ih (Nat.succ j)) (bitM m j)) n 0
section
attribute [local instance] anySyms
noncomputable def gAt (t : Nat → TypeId) (m W H j : Nat) : Bool := entryOk Tryd.prog (QC0 t) (tabG t) 51 ([va [vi W, vi H], va [vi (Nat.div j 3), vu (Nat.mod j 3)]], .bool (bitM m j))
end
theorem allN_app {p : Nat → Bool} : ∀ {m lo n : Nat}, allN p m lo = true → allN p n (lo + m) = true → allN p (m + n) lo = true := by
  haveI := anySyms
  intro m
  induction m with
  | zero => intro lo n _ h; rw [Nat.zero_add]; exact h
  | succ m ih =>
    intro lo n h k
    change Bool.rec (motive := fun _ => Bool) false (allN p m (Nat.succ lo)) (p lo) = true at h
    rw [Nat.succ_add]
    show Bool.rec (motive := fun _ => Bool) false (allN p (m + n) (Nat.succ lo)) (p lo) = true
    cases hp : p lo with
    | false => rw [hp] at h; cases h
    | true =>
      rw [hp] at h
      exact ih h (by rw [show Nat.succ lo + m = lo + (m + 1) by omega]; exact k)

end Go.Proofs.YtaacmbmnlhoghaaDoor
