/- The plain machine (VamOps3): part of a proof by a machine of plain values that is proved right. -/
import Derived.Test.YtnkmhgojbinhkabVamEq
namespace Vam
set_option linter.unusedVariables false
set_option linter.unusedSimpArgs false
open Go
variable {P : Program} {φ : Phi} {H H' : CH} {w : World} {v : V}

/-! ## Operators -/

theorem intOp_rel {op : BinOp} {k k' : IntKind} {a b : Int} {t : TypeId} (h : intOp op k a k' b = some v) (w : World) :
    ∃ u, (binOp op t (.int k a) (.int k' b)).run P w = .ok u w ∧ ∀ φ : Phi, VR φ v u := by
  cases op with
  | shl =>
    change iShl k a b = some v at h
    cases b with
    | negSucc m => cases h
    | ofNat m =>
      cases h
      refine ⟨_, ?_, fun _ => .int _ _⟩
      have : ¬ ((m : Int) < 0) := by omega
      simp [binOp, Op.shift, this]
  | shr =>
    change iShr k a b = some v at h
    cases b with
    | negSucc m => cases h
    | ofNat m =>
      cases h
      refine ⟨_, ?_, fun _ => .int _ _⟩
      have : ¬ ((m : Int) < 0) := by omega
      simp [binOp, Op.shift, this]
  | quo =>
    obtain ⟨h1, h2⟩ := cond_ok (show cond (kEq k k') (iQuo k a b) none = some v from h) (by simp)
    obtain rfl := kEq_true h1
    obtain ⟨h3, h4⟩ := cond_ok' h2 (by simp)
    cases h4
    rw [ieq_eq] at h3
    have hb : b ≠ 0 := by simpa using h3
    exact ⟨_, by simp [binOp, Op.intDiv, hb, wrapF_eq], fun _ => .int _ _⟩
  | rem =>
    obtain ⟨h1, h2⟩ := cond_ok (show cond (kEq k k') (iRem k a b) none = some v from h) (by simp)
    obtain rfl := kEq_true h1
    obtain ⟨h3, h4⟩ := cond_ok' h2 (by simp)
    cases h4
    rw [ieq_eq] at h3
    have hb : b ≠ 0 := by simpa using h3
    exact ⟨_, by simp [binOp, Op.intDiv, hb], fun _ => .int _ _⟩
  | add =>
    obtain ⟨h1, h2⟩ := cond_ok (show cond (kEq k k') (jAdd k a b) none = some v from h) (by simp)
    obtain rfl := kEq_true h1
    cases h2
    exact ⟨.int k (k.wrap (a + b)), by simp [binOp, Op.intArith], fun _ => by rw [wrapF_eq]; exact .int _ _⟩
  | sub =>
    obtain ⟨h1, h2⟩ := cond_ok (show cond (kEq k k') (jSub k a b) none = some v from h) (by simp)
    obtain rfl := kEq_true h1
    cases h2
    exact ⟨.int k (k.wrap (a - b)), by simp [binOp, Op.intArith], fun _ => by rw [wrapF_eq]; exact .int _ _⟩
  | mul =>
    obtain ⟨h1, h2⟩ := cond_ok (show cond (kEq k k') (jMul k a b) none = some v from h) (by simp)
    obtain rfl := kEq_true h1
    cases h2
    exact ⟨.int k (k.wrap (a * b)), by simp [binOp, Op.intArith], fun _ => by rw [wrapF_eq]; exact .int _ _⟩
  | and =>
    obtain ⟨h1, h2⟩ := cond_ok (show cond (kEq k k') (jAnd k a b) none = some v from h) (by simp)
    obtain rfl := kEq_true h1
    cases h2
    exact ⟨_, by simp [binOp, Op.intBits], fun _ => .int _ _⟩
  | or =>
    obtain ⟨h1, h2⟩ := cond_ok (show cond (kEq k k') (jOr k a b) none = some v from h) (by simp)
    obtain rfl := kEq_true h1
    cases h2
    exact ⟨_, by simp [binOp, Op.intBits], fun _ => .int _ _⟩
  | xor =>
    obtain ⟨h1, h2⟩ := cond_ok (show cond (kEq k k') (jXor k a b) none = some v from h) (by simp)
    obtain rfl := kEq_true h1
    cases h2
    exact ⟨_, by simp [binOp, Op.intBits], fun _ => .int _ _⟩
  | andNot =>
    obtain ⟨h1, h2⟩ := cond_ok (show cond (kEq k k') (jAndNot k a b) none = some v from h) (by simp)
    obtain rfl := kEq_true h1
    cases h2
    exact ⟨_, by simp [binOp, Op.intBits], fun _ => .int _ _⟩
  | eql =>
    obtain ⟨h1, h2⟩ := cond_ok (show cond (kEq k k') (jEql k a b) none = some v from h) (by simp)
    obtain rfl := kEq_true h1
    cases h2
    exact ⟨.bool (a == b), by simp [binOp, Op.intCmp], fun _ => by rw [ieq_eq]; exact .bool _⟩
  | neq =>
    obtain ⟨h1, h2⟩ := cond_ok (show cond (kEq k k') (jNeq k a b) none = some v from h) (by simp)
    obtain rfl := kEq_true h1
    cases h2
    exact ⟨.bool (a != b), by simp [binOp, Op.intCmp], fun _ => by rw [ieq_eq]; exact .bool _⟩
  | lss =>
    obtain ⟨h1, h2⟩ := cond_ok (show cond (kEq k k') (jLss k a b) none = some v from h) (by simp)
    obtain rfl := kEq_true h1
    cases h2
    refine ⟨.bool (decide (a < b)), by simp [binOp, Op.intCmp], fun _ => ?_⟩
    have : (!(ile b a)) = decide (a < b) := by rw [ile_eq]; by_cases h : b ≤ a <;> simp [h] <;> omega
    rw [this]; exact .bool _
  | leq =>
    obtain ⟨h1, h2⟩ := cond_ok (show cond (kEq k k') (jLeq k a b) none = some v from h) (by simp)
    obtain rfl := kEq_true h1
    cases h2
    exact ⟨.bool (decide (a ≤ b)), by simp [binOp, Op.intCmp], fun _ => by rw [ile_eq]; exact .bool _⟩
  | gtr =>
    obtain ⟨h1, h2⟩ := cond_ok (show cond (kEq k k') (jGtr k a b) none = some v from h) (by simp)
    obtain rfl := kEq_true h1
    cases h2
    refine ⟨.bool (decide (a > b)), by simp [binOp, Op.intCmp], fun _ => ?_⟩
    have : (!(ile a b)) = decide (a > b) := by rw [ile_eq]; by_cases h : a ≤ b <;> simp [h] <;> omega
    rw [this]; exact .bool _
  | geq =>
    obtain ⟨h1, h2⟩ := cond_ok (show cond (kEq k k') (jGeq k a b) none = some v from h) (by simp)
    obtain rfl := kEq_true h1
    cases h2
    refine ⟨.bool (decide (a ≥ b)), by simp [binOp, Op.intCmp], fun _ => ?_⟩
    rw [ile_eq]; exact .bool _

theorem strOp_rel {op : BinOp} {a b : ByteArray} {t : TypeId} (h : strOp op (bytesOf a) (bytesOf b) = some v) (w : World) :
    ∃ u, (binOp op t (.string a) (.string b)).run P w = .ok u w ∧ ∀ φ : Phi, VR φ v u := by
  cases op with
  | add =>
    obtain ⟨h1, h2⟩ := cond_ok (show cond _ (some (V.str (bytesOf a ++ bytesOf b))) none = some v from h) (by simp)
    cases h2
    have h3 : (bytesOf a).length + (bytesOf b).length ≤ 1000000 := Nat.le_of_ble_eq_true h1
    rw [bytes_len, bytes_len] at h3
    have h4 : ¬ (((a.size + b.size : Nat) : Int) > IntKind.i64.max) := by
      have : IntKind.i64.max = 9223372036854775807 := by decide
      rw [this]; omega
    refine ⟨.string (a ++ b), ?_, fun _ => ?_⟩
    · simp only [binOp, Op.stringOp, if_neg h4]; rfl
    · have : bytesOf a ++ bytesOf b = bytesOf (a ++ b) := by simp [bytesOf, ByteArray.data_append]
      rw [this]; exact .str _
  | eql =>
    cases h
    exact ⟨.bool (a.toList == b.toList), by simp [binOp, Op.stringOp], fun _ => by rw [natsEq_eq, bytes_inj]; exact .bool _⟩
  | neq =>
    cases h
    exact ⟨.bool (!(a.toList == b.toList)), by simp [binOp, Op.stringOp], fun _ => by rw [natsEq_eq, bytes_inj]; exact .bool _⟩
  | _ => cases h

theorem eqOp_rel {op : BinOp} {t : TypeId} {x y : V} {xv yv : Value} (h : eqOp P t op x y = some v) (hx : VR φ x xv) (hy : VR φ y yv) (w : World)
    (hn : ∀ r, (Op.equal t xv yv).run P w = .ok r w → (binOp .eql t xv yv).run P w = .ok (.bool r) w ∧ (binOp .neq t xv yv).run P w = .ok (.bool (!r)) w) :
    ∃ u, (binOp op t xv yv).run P w = .ok u w ∧ ∀ φ : Phi, VR φ v u := by
  cases op with
  | eql =>
    obtain ⟨b, h1, h2⟩ := opt_ok (no := none) (show opt none (fun b => some (V.bool b)) (eqT P t x y) = some v from h) (by simp)
    cases h2
    exact ⟨_, (hn b (eqT_rel h1 hx hy w)).1, fun _ => .bool _⟩
  | neq =>
    obtain ⟨b, h1, h2⟩ := opt_ok (no := none) (show opt none (fun b => some (V.bool (not b))) (eqT P t x y) = some v from h) (by simp)
    cases h2
    exact ⟨_, (hn b (eqT_rel h1 hx hy w)).2, fun _ => .bool _⟩
  | _ => cases h

theorem eqGuard_ok (op : BinOp) (t : TypeId) (xo yo : Operand) (xv yv : Value) (w : World) (h1 : xv ≠ .nilIface) (h2 : ∀ cs, xv = .agg cs → P.eqGuardType P.depth t = false) :
    (eqGuard op t xo yo xv yv).run P w = .ok () w := by
  cases xv with
  | nilIface => exact absurd rfl h1
  | agg cs =>
    cases yv with
    | agg ds => exact run_eqGuard_agg w op t xo yo cs ds (h2 cs rfl)
    | _ => cases op <;> simp [eqGuard]
  | _ => cases op <;> simp [eqGuard]

theorem sim_binOp (h : Rel P φ H w) {op : BinOp} {t : TypeId} {xo yo : Operand} {x y : V} {xv yv : Value} (hx : VR φ x xv) (hy : VR φ y yv)
    (hr : pure1 H (binV P t op x y) = .ok v H') : Sim P φ H w (do pure (.value (← (do eqGuard op t xo yo xv yv; binOp op t xv yv)))) v H' := by
  obtain ⟨h1, rfl⟩ := pure1_ok hr
  have key : (∃ u, (binOp op t xv yv).run P w = .ok u w ∧ ∀ φ : Phi, VR φ v u) → (xv ≠ .nilIface) → (∀ cs, xv = .agg cs → P.eqGuardType P.depth t = false) →
      Sim P φ H' w (do pure (.value (← (do eqGuard op t xo yo xv yv; binOp op t xv yv)))) v H' := by
    rintro ⟨u, k1, k2⟩ k3 k4
    exact Sim.pure h (by simp [eqGuard_ok op t xo yo xv yv w k3 k4, k1]) (k2 φ)
  cases hx with
  | int k a =>
    obtain ⟨k', b, rfl, h2⟩ := onInt_ok (no := none) (show onInt none (intOp op k a) y = some v from h1) (by simp)
    cases hy
    exact key (intOp_rel h2 w) (by intro e; cases e) (by intro _ e; cases e)
  | str s =>
    obtain ⟨b, rfl, h2⟩ := onStr_ok (no := none) (show onStr none (strOp op (bytesOf s)) y = some v from h1) (by simp)
    cases hy
    exact key (strOp_rel h2 w) (by intro e; cases e) (by intro _ e; cases e)
  | agg l cs hl =>
    obtain ⟨h2, h3⟩ := cond_ok' (show cond (P.eqGuardType P.depth t) none (eqOp P t op (.agg l) y) = some v from h1) (by simp)
    exact key (eqOp_rel h3 (.agg l cs hl) hy w (fun r e => by simp [binOp, e])) (by intro e; cases e) (fun _ _ => h2)
  | bool b => exact key (eqOp_rel h1 (.bool b) hy w (fun r e => by simp [binOp, e])) (by intro e; cases e) (by intro _ e; cases e)
  | ptr b off k hk => exact key (eqOp_rel h1 (.ptr b off k hk) hy w (fun r e => by simp [binOp, e])) (by intro e; cases e) (by intro _ e; cases e)
  | nilp => exact key (eqOp_rel h1 .nilp hy w (fun r e => by simp [binOp, e])) (by intro e; cases e) (by intro _ e; cases e)
  | slice b off len cc sz cap k hk hc => exact key (eqOp_rel h1 (.slice b off len cc sz cap k hk hc) hy w (fun r e => by simp [binOp, e])) (by intro e; cases e) (by intro _ e; cases e)
  | nils => exact key (eqOp_rel h1 .nils hy w (fun r e => by simp [binOp, e])) (by intro e; cases e) (by intro _ e; cases e)
  | map b k hk => exact key (eqOp_rel h1 (.map b k hk) hy w (fun r e => by simp [binOp, e])) (by intro e; cases e) (by intro _ e; cases e)
  | nilm => exact key (eqOp_rel h1 .nilm hy w (fun r e => by simp [binOp, e])) (by intro e; cases e) (by intro _ e; cases e)
  | func f a b A B ha hb => exact key (eqOp_rel h1 (.func f a b A B ha hb) hy w (fun r e => by simp [binOp, e])) (by intro e; cases e) (by intro _ e; cases e)
  | nilf => exact key (eqOp_rel h1 .nilf hy w (fun r e => by simp [binOp, e])) (by intro e; cases e) (by intro _ e; cases e)
  | yield b k hk => cases h1
  | tup l cs hl => cases h1

theorem sim_unOp (h : Rel P φ H w) {op : UnOp} {x : V} {xv : Value} (hx : VR φ x xv) (hr : pure1 H (unV op x) = .ok v H') :
    Sim P φ H w (do pure (.value (← Op.unary op xv))) v H' := by
  obtain ⟨h1, rfl⟩ := pure1_ok hr
  cases op with
  | neg =>
    obtain ⟨k, n, rfl, h2⟩ := onInt_ok (no := none) (show onInt none _ x = some v from h1) (by simp)
    cases h2
    cases hx
    refine Sim.pure h (x := .int k (k.wrap (0 - n))) (by simp [Op.unary, Op.intArith]) ?_
    rw [wrapF_eq, show Int.neg n = 0 - n by show -n = 0 - n; omega]; exact .int _ _
  | not =>
    obtain ⟨b, rfl, h2⟩ := onBool_ok (no := none) (show onBool none _ x = some v from h1) (by simp)
    cases h2
    cases hx
    exact Sim.pure h (by simp [Op.unary]) (.bool _)
  | _ => cases h1

theorem sim_convert (h : Rel P φ H w) {s d : TypeId} {x : V} {xv : Value} (hx : VR φ x xv) (hr : oConvert P s d x H = .ok v H') :
    Sim P φ H w (do pure (.value (← convert s d xv))) v H' := by
  obtain ⟨h1, h2⟩ := cond_ok hr R.ok_ne
  obtain ⟨ds, g1⟩ := (sized_iff h1).2
  cases ht : tyOf P d with
  | int k =>
    rw [ht] at h2
    obtain ⟨k', n, rfl, h3⟩ := onInt_ok h2 R.ok_ne
    cases h3
    cases hx
    refine Sim.pure h (x := .int k (k.wrap n)) ?_ (by rw [wrapF_eq]; exact .int _ _)
    simp [convert, run_underlying g1, run_underlying (tyOf_int ht), Conv.intToInt]
  | string =>
    rw [ht] at h2
    obtain ⟨b, rfl, h3⟩ := onStr_ok h2 R.ok_ne
    cases h3
    cases hx with
    | str s =>
      refine Sim.pure h (x := .string s) ?_ (.str s)
      cases ds <;> simp [convert, run_underlying g1, run_underlying (tyOf_string ht)]
  | _ => rw [ht] at h2; cases h2

theorem sim_nilCheck (h : Rel P φ H w) {o : Oper} {ρ : Operand → Value} {x : Operand} {xx : V} (ho : o.op = .nilCheck x) (hx : VR φ xx (ρ x)) (hr : oNilCheck xx H = .ok v H') :
    Sim P φ H w (execOp ρ o) v H' := by
  simp only [execOp, ho]
  generalize ρ x = xv at hx
  cases hx with
  | ptr b off k hk => cases hr; exact ⟨φ, w, _, .inl (by simp), h, .refl _ _ _, .ptr b off k hk⟩
  | func f a b A B ha hb => cases hr; exact ⟨φ, w, _, .inl (by simp), h, .refl _ _ _, .func f a b A B ha hb⟩
  | _ => cases hr

theorem sim_makeFunc (h : Rel P φ H w) {tm : TT} {a : Act} (htm : TmR φ tm a.tmps) {fn : Fn} {xs ys : Array Operand} (h1 : xs.toList.all (okO a.tmps.size) = true) (h2 : ys.toList.all (okO a.tmps.size) = true)
    (hr : aMakeFunc fn xs ys P ⟨fun _ _ _ _ _ _ => .no, fun _ _ _ => .no⟩ tm H = .ok v H') :
    Sim P φ H w (do pure (.value (← Instr.makeFunc fn (xs.map a.eval) (ys.map a.eval)))) v H' := by
  cases fn with
  | func f =>
    cases hr
    refine Sim.pure h (x := .func (.func f) (xs.map a.eval) (ys.map a.eval)) (by simp [Instr.makeFunc]) (.func f _ _ _ _ ?_ ?_)
    · have := evalL_rel htm h1; simpa using this
    · have := evalL_rel htm h2; simpa using this
  | _ => cases hr

/-! ## Slices -/

theorem sliceB_rel {x : V} {xv : Value} {y n : Nat} {c : BoundsCode} (h : sliceB y x = some n) (hx : VR φ x xv) (w : World) : (Instr.sliceBound xv y c).run P w = .ok n w ∧ n ≤ y := by
  obtain ⟨k, m, rfl, h1⟩ := natOf_ok (no := none) h (by simp)
  obtain ⟨h2, h3⟩ := cond_ok h1 (by simp)
  cases h3
  cases hx
  have := Nat.le_of_ble_eq_true h2
  refine ⟨?_, this⟩
  simp [Instr.sliceBound, asIntOf, this]

inductive OptR (φ : Phi) : Option V → Option Value → Prop where
  | none : OptR φ none none
  | some (x : V) (v : Value) : VR φ x v → OptR φ (some x) (some v)

theorem evalOpt_rel {tm : TT} {a : Act} (h : TmR φ tm a.tmps) {o : Option Operand} (ho : o.toList.all (okO a.tmps.size) = true) : OptR φ (evalOpt tm o) (o.map a.eval) := by
  cases o with
  | none => exact .none
  | some x => exact .some _ _ (evalO_rel h (by simpa using ho))

theorem sliceB_le {x : V} {xv : Value} {y y' n : Nat} {c : BoundsCode} (h : sliceB y x = some n) (hx : VR φ x xv) (hy : y ≤ y') (w : World) : (Instr.sliceBound xv y' c).run P w = .ok n w ∧ n ≤ y := by
  obtain ⟨k, m, rfl, h1⟩ := natOf_ok (no := none) h (by simp)
  obtain ⟨h2, h3⟩ := cond_ok h1 (by simp)
  cases h3
  cases hx
  have h4 := Nat.le_of_ble_eq_true h2
  have h5 : n ≤ y' := Nat.le_trans h4 hy
  refine ⟨?_, h4⟩
  simp [Instr.sliceBound, asIntOf, h5]

theorem sliceB3_rel {isSlice : Bool} {len capc capr m l h : Nat} {lo hi mx : Option V} {lov hiv mxv : Option Value} (hcap : capc ≤ capr) (hlen : len ≤ capc)
    (hm : opt (some capc) (sliceB capc) mx = some m) (hb : sliceB3 len m lo hi mx = some (l, h)) (h1 : OptR φ lo lov) (h2 : OptR φ hi hiv) (h3 : OptR φ mx mxv) (w : World) :
    (Instr.sliceBounds isSlice len capr lov hiv mxv).run P w = .ok (l, h, if mx.isSome then m else capr) w ∧ l ≤ h ∧ h ≤ m ∧ m ≤ capc := by
  obtain ⟨h', k1, k2⟩ := opt_ok (no := none) hb (by simp)
  obtain ⟨l', k3, k4⟩ := opt_ok (no := none) k2 (by simp)
  cases k4
  cases h3 with
  | none =>
    cases hm
    cases h2 with
    | none =>
      cases k1
      cases h1 with
      | none => cases k3; simp [Instr.sliceBounds, hlen]
      | some x u hx =>
        obtain ⟨q1, q2⟩ := sliceB_le (P := P) (c := .sliceB) k3 hx (Nat.le_refl _) w
        simp [Instr.sliceBounds, q1, q2, hlen]
    | some y z hy =>
      obtain ⟨p1, p2⟩ := sliceB_le (P := P) (c := if isSlice then .sliceAcap else .sliceAlen) k1 hy hcap w
      cases h1 with
      | none => cases k3; simp [Instr.sliceBounds, p1, p2]
      | some x u hx =>
        obtain ⟨q1, q2⟩ := sliceB_le (P := P) (c := .sliceB) k3 hx (Nat.le_refl _) w
        simp [Instr.sliceBounds, p1, p2, q1, q2]
  | some a b ha =>
    obtain ⟨r1, r2⟩ := sliceB_le (P := P) (c := if isSlice then .slice3Acap else .slice3Alen) hm ha hcap w
    cases h2 with
    | none => cases k1
    | some y z hy =>
      obtain ⟨p1, p2⟩ := sliceB_le (P := P) (c := .slice3B) k1 hy (Nat.le_refl _) w
      cases h1 with
      | none => cases k3; simp [Instr.sliceBounds, r1, p1, p2, r2]
      | some x u hx =>
        obtain ⟨q1, q2⟩ := sliceB_le (P := P) (c := .slice3C) k3 hx (Nat.le_refl _) w
        simp [Instr.sliceBounds, r1, p1, p2, q1, q2, r2]

theorem capN_X (n : Nat) : capN (capX n) = n := by show Nat.succ (2 * n) / 2 = n; omega
theorem capN_A (n : Nat) : capN (capA n) = n := by show 2 * n / 2 = n; omega
theorem capE_X (n : Nat) : capE (capX n) = true := by show Nat.beq (Nat.succ (2 * n) % 2) 1 = true; rw [nbeq_eq, decide_eq_true_iff]; omega
theorem capE_A (n : Nat) : capE (capA n) = false := by show Nat.beq (2 * n % 2) 1 = false; rw [nbeq_eq, decide_eq_false_iff_not]; omega

theorem natC_zero {α : Type} (z : α) (f : Nat → α) : natC z f 0 = z := rfl
theorem natC_succ {α : Type} (z : α) (f : Nat → α) (n : Nat) : natC z f (n + 1) = f n := rfl

theorem sim_slice (h : Rel P φ H w) {t : TypeId} {x : V} {xv : Value} {lo hi mx : Option V} {lov hiv mxv : Option Value} (hx : VR φ x xv)
    (h1 : OptR φ lo lov) (h2 : OptR φ hi hiv) (h3 : OptR φ mx mxv) (hr0 : pure1 H (sliceV P t x lo hi mx) = .ok v H') :
    Sim P φ H w (do pure (.value (← Instr.sliceAt t xv lov hiv mxv))) v H' := by
  obtain ⟨hr, rfl⟩ := pure1_ok hr0
  clear hr0
  unfold sliceV at hr
  cases ht : tyOf P t with
  | array n e =>
    rw [ht] at hr
    obtain ⟨g1, g2⟩ := tyOf_array ht
    have hs := sizeOf_run (sized_iff g2).1 w
    obtain ⟨b, o, rfl, k1⟩ := onPtr_ok (no := none) hr (by simp)
    obtain ⟨m, k2, k3⟩ := opt_ok (no := none) k1 (by simp)
    obtain ⟨⟨l, hh⟩, k4, k5⟩ := opt_ok (no := none) k3 (by simp)
    obtain ⟨q1, q2, q3, q4⟩ := sliceB3_rel (P := P) (isSlice := false) (Nat.le_refl n) (Nat.le_refl n) k2 k4 h1 h2 h3 w
    have hmm : (if mx.isSome then m else n) = m := by
      cases h3 with
      | none => cases k2; simp
      | some _ _ _ => simp
    rw [hmm] at q1
    cases hx with
    | ptr _ _ k hk =>
      change cond (Nat.beq m l) _ _ = some v at k5
      by_cases hml : m = l
      · subst hml
        rw [show Nat.beq m m = true by rw [nbeq_eq]; simp] at k5
        cases k5
        refine Sim.pure h (x := .slice (some ⟨k.r, k.o + o, none⟩) (hh - m) (m - m)) ?_ (.slice b o _ _ _ _ k hk ⟨by rw [capN_X]; show hh - m ≤ 0; omega, fun _ => by rw [capN_X]; omega, fun e => by rw [capE_X] at e; cases e⟩)
        simp [Instr.sliceAt, run_underlying g1, Instr.sureAddr, q1, hs]
      · rw [show Nat.beq m l = false by rw [nbeq_eq]; simp [hml]] at k5
        cases k5
        refine Sim.pure h (x := .slice (some ⟨k.r, k.o + (o + l * P.cellsOf e), none⟩) (hh - l) (m - l)) ?_
          (.slice b _ _ _ _ _ k hk ⟨by rw [show cond true (capX (Nat.sub m l)) _ = capX (m - l) from rfl, capN_X]; show hh - l ≤ m - l; omega, fun _ => by rw [show cond true (capX (Nat.sub m l)) _ = capX (m - l) from rfl, capN_X],
            fun e => by rw [show cond true (capX (Nat.sub m l)) _ = capX (m - l) from rfl, capE_X] at e; cases e⟩)
        simp [Instr.sliceAt, run_underlying g1, Instr.sureAddr, q1, hs, hml, addr_add, Nat.add_assoc]
  | slice e =>
    rw [ht] at hr
    obtain ⟨g1, g2⟩ := tyOf_slice ht
    have hs := sizeOf_run (sized_iff g2).1 w
    rcases onSlice_ok (no := none) hr (by simp) with ⟨b, o, len, cc, sz, rfl, k0⟩ | ⟨rfl, k0⟩
    · obtain ⟨e1, k1⟩ := cond_ok k0 (by simp)
      obtain rfl := beq_eq e1
      obtain ⟨⟨m, ex⟩, k2, k3⟩ := opt_ok (no := none) k1 (by simp)
      obtain ⟨⟨l, hh⟩, k4, k5⟩ := opt_ok (no := none) k3 (by simp)
      dsimp only at k4 k5
      cases hx with
      | slice _ _ _ _ _ cap k hk hc =>
        obtain ⟨c1, c2, c3⟩ := hc
        have hcap : capN cc ≤ cap := by
          cases hE : capE cc with
          | true => rw [c2 hE]; exact Nat.le_refl _
          | false => exact (c3 hE).1
        have hm : opt (some (capN cc)) (sliceB (capN cc)) mx = some m ∧ ex = (if mx.isSome then true else capE cc) := by
          cases mx with
          | none => cases k2; exact ⟨rfl, rfl⟩
          | some z =>
            obtain ⟨m', p1, p2⟩ := opt_ok (no := none) (show opt none (fun m => some (m, true)) (sliceB (capN cc) z) = some (m, ex) from k2) (by simp)
            cases p2
            exact ⟨p1, rfl⟩
        obtain ⟨hm, hex⟩ := hm
        obtain ⟨q1, q2, q3, q4⟩ := sliceB3_rel (P := P) (isSlice := true) hcap c1 hm k4 h1 h2 h3 w
        have run : ∀ (mr : Nat), mr = (if mx.isSome then m else cap) → (Instr.sliceAt t (.slice (some ⟨k.r, k.o + o, none⟩) len cap) lov hiv mxv).run P w =
            .ok (.slice (if mr = l then some ⟨k.r, k.o + o, none⟩ else some ⟨k.r, k.o + (o + l * P.cellsOf e), none⟩) (hh - l) (mr - l)) w := by
          intro mr hmr
          rw [← hmr] at q1
          simp [Instr.sliceAt, Instr.slice, run_underlying g1, q1, hs, addr_add, Nat.add_assoc]
        change cond (Nat.beq m l) _ _ = some v at k5
        by_cases hml : m = l
        · subst hml
          rw [show Nat.beq m m = true by rw [nbeq_eq]; simp] at k5
          cases hE : ex with
          | true =>
            rw [hE] at k5
            cases k5
            have hmr : (if mx.isSome then m else cap) = m := by
              cases hx : mx.isSome with
              | true => simp
              | false =>
                rw [hx] at hex
                have : capE cc = true := by simpa [hE] using hex.symm
                have hcc : m = capN cc := by
                  cases mx with
                  | none => cases hm; rfl
                  | some _ => cases hx
                simp [c2 this, hcc]
            refine Sim.pure h (run m hmr.symm) ?_
            rw [if_pos rfl]
            exact .slice b o _ _ _ _ k hk ⟨by rw [capN_X]; show hh - m ≤ 0; omega, fun _ => by rw [capN_X]; omega, fun e => by rw [capE_X] at e; cases e⟩
          | false =>
            rw [hE] at k5
            cases m with
            | succ m => cases k5
            | zero =>
              cases k5
              have hx : mx.isSome = false := by cases hx : mx.isSome <;> simp_all
              have hE' : capE cc = false := by rw [hx] at hex; simpa [hE] using hex.symm
              refine Sim.pure h (run cap (by simp [hx])) ?_
              have e0 : (if cap = 0 then some (⟨k.r, k.o + o, none⟩ : Addr) else some ⟨k.r, k.o + (o + 0 * P.cellsOf e), none⟩) = some ⟨k.r, k.o + o, none⟩ := by split <;> simp
              rw [e0]
              refine .slice b o _ _ _ _ k hk ⟨by rw [capN_A]; show hh - 0 ≤ 0; omega, fun e => (by rw [capE_A] at e; cases e), fun _ => ⟨by rw [capN_A]; omega, ?_⟩⟩
              simpa using (c3 hE').2
        · rw [show Nat.beq m l = false by rw [nbeq_eq]; simp [hml]] at k5
          cases k5
          cases hE : ex with
          | true =>
            have hmr : (if mx.isSome then m else cap) = m := by
              cases hx : mx.isSome with
              | true => simp
              | false =>
                rw [hx] at hex
                have : capE cc = true := by simpa [hE] using hex.symm
                have hcc : m = capN cc := by
                  cases mx with
                  | none => cases hm; rfl
                  | some _ => cases hx
                simp [c2 this, hcc]
            refine Sim.pure h (run m hmr.symm) ?_
            rw [if_neg hml]
            exact .slice b _ _ _ _ _ k hk ⟨by show hh - l ≤ capN (capX (m - l)); rw [capN_X]; omega, fun _ => by show m - l = capN (capX (m - l)); rw [capN_X], fun e => by change capE (capX (m - l)) = false at e; rw [capE_X] at e; cases e⟩
          | false =>
            have hx : mx.isSome = false := by cases hx : mx.isSome <;> simp_all
            have hE' : capE cc = false := by rw [hx] at hex; simpa [hE] using hex.symm
            obtain ⟨d1, d2⟩ := c3 hE'
            refine Sim.pure h (run cap (by simp [hx])) ?_
            rw [if_neg (by omega)]
            refine .slice b _ _ _ _ _ k hk ⟨by show hh - l ≤ capN (capA (m - l)); rw [capN_A]; omega, fun e => (by change capE (capA (m - l)) = true at e; rw [capE_A] at e; cases e), fun _ => ⟨by show capN (capA (m - l)) ≤ _; rw [capN_A]; omega, ?_⟩⟩
            show o + l * P.cellsOf e + (cap - l) * P.cellsOf e ≤ k.m
            have : l * P.cellsOf e + (cap - l) * P.cellsOf e = cap * P.cellsOf e := by rw [← Nat.add_mul]; congr 1; omega
            omega
    · obtain ⟨m, k2, k3⟩ := opt_ok (no := none) k0 (by simp)
      obtain ⟨⟨l, hh⟩, k4, k5⟩ := opt_ok (no := none) k3 (by simp)
      cases k5
      obtain ⟨q1, q2, q3, q4⟩ := sliceB3_rel (P := P) (isSlice := true) (Nat.le_refl 0) (Nat.le_refl 0) k2 k4 h1 h2 h3 w
      have hm0 : m = 0 := by omega
      subst hm0
      cases hx
      refine Sim.pure h (x := .slice none 0 0) ?_ .nils
      have : l = 0 := by omega
      subst this
      have : hh = 0 := by omega
      subst this
      simp at q1
      simp [Instr.sliceAt, Instr.slice, run_underlying g1, q1, hs]
  | string =>
    rw [ht] at hr
    have g1 := tyOf_string ht
    obtain ⟨s, rfl, k1⟩ := onStr_ok (no := none) hr (by simp)
    cases h3 with
    | some _ _ _ => cases k1
    | none =>
      obtain ⟨⟨l, hh⟩, k4, k5⟩ := opt_ok (no := none) (show opt none (fun lh => some (V.str ((s.take lh.2).drop lh.1))) (sliceB3 s.length s.length lo hi none) = some v from k1) (by simp)
      cases k5
      cases hx with
      | str s =>
        rw [bytes_len] at k4
        obtain ⟨q1, q2, q3, q4⟩ := sliceB3_rel (P := P) (mx := none) (isSlice := false) (Nat.le_refl s.size) (Nat.le_refl s.size) rfl k4 h1 h2 .none w
        refine Sim.pure h (x := .string (s.extract l hh)) ?_ ?_
        · simp at q1
          simp [Instr.sliceAt, Instr.slice, run_underlying g1, q1]
        · have : ((bytesOf s).take hh).drop l = bytesOf (s.extract l hh) := by
            simp [bytesOf, ByteArray.data_extract, List.extract_eq_take_drop, List.drop_take]
          show VR φ (.str (((bytesOf s).take hh).drop l)) _
          rw [this]; exact .str _
  | _ => rw [ht] at hr; cases hr
end Vam
