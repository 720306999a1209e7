/- The plain machine (VamSound): part of a proof by a machine of plain values that is proved right. -/
import Derived.Test.YtnkmhgojbinhkabVamExec
import Derived.RangeFuncLeaves
import Derived.OrdersIn
import Derived.LoopNIn
namespace Vam
set_option linter.unusedVariables false
set_option linter.unusedSimpArgs false
open Go
variable {P : Program} {φ : Phi} {H H' : CH} {w : World} {v : V} {E : Ev}

/-! ## What it means that the plain machine is right -/

def exOf : Ex → Exit
  | .normal => .normal
  | .exit i => .exit i
  | .goto l => .goto l
  | .ret => .ret

/-- the blocks for what rounds defer -/
inductive DfR (φ : Phi) : List Id → List Deferred → Prop where
  | nil : DfR φ [] []
  | cons (b : Id) (k : Loc) (ds : List Id) (l : List Deferred) : φ b = some k → DfR φ ds l → DfR φ (b :: ds) ({ target := .collected k.r, args := #[] } :: l)

theorem DfR.mono {φ ψ : Phi} (hle : φ.le ψ) {ds : List Id} {l : List Deferred} (h : DfR φ ds l) : DfR ψ ds l := by
  induction h with
  | nil => exact .nil
  | cons b k ds l h1 _ ih => exact .cons b k ds l (hle _ _ h1) ih

/-- the round that a frame is -/
def RoR (φ : Phi) (ro : Option Id) (r : Option Nat) : Prop := match ro with
  | none => r = none
  | some l => ∃ k, φ l = some k ∧ r = some k.r

theorem RoR.mono {φ ψ : Phi} (hle : φ.le ψ) {ro : Option Id} {r : Option Nat} (h : RoR φ ro r) : RoR ψ ro r := by
  cases ro with
  | none => exact h
  | some l => obtain ⟨k, h1, h2⟩ := h; exact ⟨k, hle _ _ h1, h2⟩

abbrev wideAt (r : Option Nat) : Fence := { Fence.wide with round := r }

def After (P : Program) (φ : Phi) (H : CH) (w : World) (ex : Ex) (tm' : TT) (ds' : List Id) (H' : CH) (n : Nat) : Exit → Act → World → Prop := fun e a' w' =>
  e = exOf ex ∧ ∃ φ', Rel P φ' H' w' ∧ Ext φ H w φ' H' w' ∧ TmR φ' tm' a'.tmps ∧ a'.tmps.size = n ∧ DfR φ' ds' a'.defers

/-- what a call must come to -/
def Back (P : Program) (φ : Phi) (H : CH) (w : World) (v : V) (H' : CH) : Ending → World → Prop := fun e w' =>
  ∃ x φ', e = .returned x ∧ Rel P φ' H' w' ∧ Ext φ H w φ' H' w' ∧ VR φ' v x

/-- a function with a text -/
def Texted (P : Program) (f : FuncId) : Prop := ∃ fn c, P.funcs[f]? = some fn ∧ fn.body = some c ∧ (fn.name == "runtime.NumGoroutine") = false

def SoundCall (P : Program) (E : Ev) : Prop := ∀ {f : FuncId} {args : V} {vs : List Value} {φ : Phi} {H : CH} {w : World} {v : V} {H' : CH}, Rel P φ H w → LR φ args vs → E.call f args H = .ok v H' →
  Texted P f ∧ CallsIn Fence.wide 0 P f vs.toArray w (Back P φ H w v H')

def SoundCode (P : Program) (E : Ev) : Prop := ∀ {c : Code} {tm : TT} {ds : List Id} {ro : Option Id} {fn : FuncId} {H : CH} {ex : Ex} {tm' : TT} {ds' : List Id} {H' : CH} {φ : Phi} {w : World} {a : Act} {r : Option Nat},
  Rel P φ H w → TmR φ tm a.tmps → DfR φ ds a.defers → RoR φ ro r → okCode P a.tmps.size c = true → E.code c tm ds ro fn H = .ok ex tm' ds' H' →
  c.wpIn (wideAt r) 0 P (After P φ H w ex tm' ds' H' a.tmps.size) a w

theorem fenced_wideAt (P : Program) (r : Option Nat) : Machine.fenced P (wideAt r) = Machine.fenced P Fence.wide := rfl

theorem callsAt {f : FuncId} {args : Array Value} {R : Ending → World → Prop} {n m : Nat} (r : Option Nat) (h : CallsIn Fence.wide n P f args w R) : CallsIn (wideAt r) m P f args w R :=
  ⟨trivial, fun cs _ => h.2 cs (room_wide _)⟩

/-! ## Calls of what the language brings -/

theorem sim_builtin (h : Rel P φ H w) {b : Builtin} {ts : Array TypeId} {ty : TypeId} {cn : Array Bool} {xs : V} {vs : List Value} (hl : LR φ xs vs) (hr : oBuiltin P b ts.toList xs H = .ok v H') :
    Sim P φ H w (builtin b ts ty cn vs.toArray) v H' := by
  unfold oBuiltin at hr
  cases b with
  | len =>
    simp only at hr
    split at hr
    · rename_i t hts
      obtain rfl : ts = #[t] := Array.ext' (by rw [hts])
      rcases onList_ok hr R.ok_ne with ⟨_, hr1⟩ | ⟨x, l, e1, hr1⟩
      · cases hr1
      · subst e1
        obtain ⟨xv, vs', rfl, h1, h2⟩ := LR.inv_cons hl
        rcases onList_ok hr1 R.ok_ne with ⟨e2, hr2⟩ | ⟨_, _, _, hr2⟩
        · subst e2
          obtain rfl := LR.inv_nil h2
          exact sim_len h h1 hr2
        · cases hr2
    · cases hr
  | append =>
    rcases onList_ok hr R.ok_ne with ⟨_, hr1⟩ | ⟨x, l, e1, hr1⟩
    · cases hr1
    · subst e1
      obtain ⟨xv, vs', rfl, h1, h2⟩ := LR.inv_cons hl
      rcases onList_ok hr1 R.ok_ne with ⟨_, hr2⟩ | ⟨y, l', e2, hr2⟩
      · cases hr2
      · subst e2
        obtain ⟨yv, vs'', rfl, h3, h4⟩ := LR.inv_cons h2
        exact sim_append h (sv := xv) (xv := yv) (by simp) (by simp) h1 h3 hr2
  | min =>
    rcases onList_ok hr R.ok_ne with ⟨_, hr1⟩ | ⟨x, l, e1, hr1⟩
    · cases hr1
    · subst e1
      exact sim_min h hl hr1
  | max =>
    rcases onList_ok hr R.ok_ne with ⟨_, hr1⟩ | ⟨x, l, e1, hr1⟩
    · cases hr1
    · subst e1
      exact sim_max h hl hr1
  | _ => cases hr

/-! ## One operation -/

theorem wp_of_sim {o : Oper} {a : Act} {s : Sem Next} {next : Act → World → Prop} {Q : Exit → Act → World → Prop} {r : Option Nat} (hs : Sim P φ H w s v H') (ho : (o.semAt r a.eval).run P w = s.run P w)
    (hnext : ∀ φ' w' x, Rel P φ' H' w' → Ext φ H w φ' H' w' → VR φ' v x → next (a.put o.dst x) w') : o.wpIn (wideAt r) 0 P a w next Q := by
  obtain ⟨φ', w', x, hrun, h1, h2, h3⟩ := hs
  refine ⟨fun _ _ => trivial, ?_⟩
  show o.uponIn (wideAt r) 0 P a next Q ((o.semAt r a.eval).run P w)
  rw [ho]
  rcases hrun with hrun | ⟨hrun, rfl⟩
  · rw [hrun]; exact hnext φ' w' x h1 h2 h3
  · rw [hrun]; exact hnext φ' w' _ h1 h2 h3

theorem wp_of_enter {o : Oper} {a : Act} {next : Act → World → Prop} {Q : Exit → Act → World → Prop} {r : Option Nat} {f : FuncId} {args : Array Value}
    (ho : (o.semAt r a.eval).run P w = .ok (.enter f args) w) (hc : CallsIn Fence.wide 0 P f args w (Back P φ H w v H'))
    (hnext : ∀ φ' w' x, Rel P φ' H' w' → Ext φ H w φ' H' w' → VR φ' v x → next (a.put o.dst x) w') : o.wpIn (wideAt r) 0 P a w next Q := by
  refine ⟨fun _ _ => trivial, ?_⟩
  show o.uponIn (wideAt r) 0 P a next Q ((o.semAt r a.eval).run P w)
  rw [ho]
  refine ⟨fun h => (by cases h), callsAt r (hc.mono ?_)⟩
  rintro e w' ⟨x, φ', rfl, h1, h2, h3⟩
  exact hnext φ' w' x h1 h2 h3

theorem wp_of_round {o : Oper} {a : Act} {next : Act → World → Prop} {Q : Exit → Act → World → Prop} {r : Option Nat} {l : Nat} {f : FuncId} {tmps : Array Value} {x y : Code}
    (ho : (o.semAt r a.eval).run P w = .ok (.round l f tmps x y) w) (hc : RoundIn Fence.wide 0 P l f tmps x y w (Back P φ H w v H'))
    (hnext : ∀ φ' w' x, Rel P φ' H' w' → Ext φ H w φ' H' w' → VR φ' v x → next (a.put o.dst x) w') : o.wpIn (wideAt r) 0 P a w next Q := by
  refine ⟨fun _ _ => trivial, ?_⟩
  show o.uponIn (wideAt r) 0 P a next Q ((o.semAt r a.eval).run P w)
  rw [ho]
  refine ⟨fun h => (by cases h), trivial, fun c cs hroom => ?_⟩
  obtain ⟨e, w', ⟨x, φ', rfl, h1, h2, h3⟩, h4⟩ := hc.2 c cs (room_wide _)
  exact ⟨.returned x, w', hnext φ' w' x h1 h2 h3, h4⟩

theorem run_callFunc {f : FuncId} {args : Array Value} (h : Texted P f) : (callFunc f args).run P w = .ok (.enter f args) w := by
  obtain ⟨fn, c, h1, h2, h3⟩ := h
  simp [callFunc, h1, h2]
  exact beq_eq_false_iff_ne.1 h3


/-! ## A round -/

theorem onLoop_ok {α : Type} {no r : α} {f : LoopState → Option Code → FuncId → TT → List Nat → Code → Code → Id → α} {b : Option Blk} (h : onLoop no f b = r) (hr : r ≠ no) :
    ∃ s pe fn tm ps x y d, b = some (.loop s pe fn tm ps x y d) ∧ f s pe fn tm ps x y d = r := by
  cases b with
  | none => exact absurd h.symm hr
  | some z => cases z <;> first | exact ⟨_, _, _, _, _, _, _, _, rfl, h⟩ | exact absurd h.symm hr

theorem getLoop_run (h : Rel P φ H w) {l : Id} {k : Loc} (hl : φ l = some k) {s : LoopState} {pe : Option Code} {fn : FuncId} {tm : TT} {ps : List Nat} {x y : Code} {d : Id}
    (hg : H.get l = some (.loop s pe fn tm ps x y d)) : ∃ (tmps : Array Value) (kd : Loc) (fn' : FuncId), φ d = some kd ∧
      w.heap[k.r]? = some (.loop { state := s, pending := pe, fn := fn', tmps, params := ps.toArray, assign := x, body := y, defers := kd.r }) ∧
      (Instr.getLoop k.r).run P w = .ok { state := s, pending := pe, fn := fn', tmps, params := ps.toArray, assign := x, body := y, defers := kd.r } w ∧ TmR φ tm tmps ∧
      okCode P tmps.size x = true ∧ okCode P tmps.size y = true ∧ (∀ t ∈ ps, t < tmps.size) ∧ (∀ c, pe = some c → ∀ n, okCode P n c = true) := by
  obtain ⟨z, h1, h2⟩ := h.blk l k hl
  rw [hg] at h1; cases h1
  obtain ⟨tmps, kd, fn', h3, h4, h5⟩ := h2
  have hgo : (getObj k.r).run P w = .ok (.loop { state := s, pending := pe, fn := fn', tmps, params := ps.toArray, assign := x, body := y, defers := kd.r }) w := by
    simp [getObj, Sem.run, h4]
  exact ⟨tmps, kd, fn', h3, h4, by simp [Instr.getLoop, hgo], h5⟩

theorem setParams_nil (vs : V) (tm : TT) : setParams [] vs tm = onList none (some tm) (fun _ _ => none) vs := rfl
theorem setParams_cons (p : Nat) (ps : List Nat) (vs : V) (tm : TT) : setParams (p :: ps) vs tm = onList none none (fun v vs => setParams ps vs (TT.set v tm p)) vs := rfl

theorem setParams_rel : ∀ {ps : List Nat} {args : V} {vs : List Value} {tm tm' : TT} {tmps : Array Value}, LR φ args vs → TmR φ tm tmps → (∀ t ∈ ps, t < tmps.size) → setParams ps args tm = some tm' →
    ps.length = vs.length ∧ TmR φ tm' ((ps.zip vs).foldl (fun tmps (t, a) => tmps.setIfInBounds t a) tmps) ∧ ((ps.zip vs).foldl (fun tmps (t, a) => tmps.setIfInBounds t a) tmps).size = tmps.size := by
  intro ps
  induction ps with
  | nil =>
    intro args vs tm tm' tmps ha ht hp h
    rw [setParams_nil] at h
    rcases onList_ok (no := none) h (by simp) with ⟨rfl, h1⟩ | ⟨_, _, _, h1⟩
    · cases h1
      obtain rfl := LR.inv_nil ha
      exact ⟨rfl, ht, rfl⟩
    · cases h1
  | cons p ps ih =>
    intro args vs tm tm' tmps ha ht hp h
    rw [setParams_cons] at h
    rcases onList_ok (no := none) h (by simp) with ⟨_, h1⟩ | ⟨x, l, rfl, h1⟩
    · cases h1
    · obtain ⟨xv, vs', rfl, h2, h3⟩ := LR.inv_cons ha
      obtain ⟨q1, q2, q3⟩ := ih h3 (ht.set (hp p (by simp)) h2) (fun t htt => by rw [Array.size_setIfInBounds]; exact hp t (by simp [htt])) h1
      refine ⟨by simp [q1], by simpa using q2, by simpa using q3⟩

end Vam
