/- The plain machine (VamDraw2): part of a proof by a machine of plain values that is proved right. -/
import Derived.Test.YtnkmhgojbinhkabVamDraw1
namespace Vam
set_option linter.unusedVariables false
set_option linter.unusedSimpArgs false
open Go
variable {P : Program} {φ : Phi} {H H' K : CH} {w : World} {v : V} {E : Ev}

/-! ## Reading: two heaps that are alike at what is named -/

def Agree (φ : Phi) (H K : CH) : Prop := ∀ b k, φ b = some k → K.get b = H.get b
theorem Agree.symm (h : Agree φ H K) : Agree φ K H := fun b k hb => (h b k hb).symm

theorem loadV_get {t : TypeId} {b : Id} {off : Nat} (h : K.get b = H.get b) : loadV P t K b off = loadV P t H b off := by
  unfold loadV read1 readCells; rw [h]

theorem mapEs_agree (ha : Agree φ H K) {m : V} {mv : Value} (hm : VR φ m mv) : mapEs K m = mapEs H m := by
  cases hm with
  | map b k hb => show onMapB none (fun es _ => some es) (K.get b) = onMapB none (fun es _ => some es) (H.get b); rw [ha b k hb]
  | _ => rfl

theorem lookupV_agree (ha : Agree φ H K) {t : TypeId} {m k : V} {mv : Value} {ok : Bool} (hm : VR φ m mv) : lookupV P K t m k ok = lookupV P H t m k ok := by
  unfold lookupV; rw [mapEs_agree ha hm]

theorem lenB_agree (ha : Agree φ H K) {t : TypeId} {m : V} {mv : Value} (hm : VR φ m mv) : lenB P K t m = lenB P H t m := by
  unfold lenB; rw [mapEs_agree ha hm]

theorem inList_agree {f g : V → MvK} (ih : ∀ {v : V} {x : Value}, VR φ v x → f v = g v) {vs : List Value} {l : V} (hl : LR φ l vs) : inList f l = inList g l := by
  induction vs generalizing l with
  | nil => cases hl; rfl
  | cons x vs ihl =>
    cases hl with
    | cons y l _ _ h1 h2 =>
      show inCons f y l (inList f l) = inCons g y l (inList g l)
      unfold inCons
      rw [ih h1, ihl h2]

theorem cells_LR (h : Rel P φ H w) {b : Id} {k : Loc} (hb : φ b = some k) {off n : Nat} {cells : V} (hr : readCells H b off n = some cells) : ∃ vs, LR φ cells vs := by
  obtain ⟨cs, e, st, sh, arr, el, fr, h1, h2, h3, h4, us, h5, h6⟩ := h.cells hb hr
  exact ⟨_, (LR.take n (h5.drop off) h1).2.1⟩

theorem inV_agree (h : Rel P φ H w) (ha : Agree φ H K) : ∀ (k : Nat) {v : V} {x : Value}, VR φ v x → inV K k v = inV H k v := by
  intro k
  induction k with
  | zero => intro v x _; rfl
  | succ k ih =>
    intro v x hv
    cases hv with
    | agg l cs hl =>
      show (fun H o => mvThen (inList (inV K k) l H o) (fun l H o => .ok (.agg l) H o)) = (fun G o => mvThen (inList (inV H k) l G o) (fun l H o => .ok (.agg l) H o))
      rw [inList_agree ih hl]
    | slice b off len cc sz cap kc hk hcap =>
      show inSlice K (inV K k) b off len cc sz = inSlice H (inV H k) b off len cc sz
      unfold inSlice
      have hget := ha b kc hk
      have hrd : readCells K b off (Nat.mul len sz) = readCells H b off (Nat.mul len sz) := by unfold readCells; rw [hget]
      rw [hget, hrd]
      cases hc : readCells H b off (Nat.mul len sz) with
      | none => rfl
      | some cells =>
        obtain ⟨vs, hl⟩ := cells_LR h hk hc
        funext G o
        show cond (within (H.get b) off (Nat.mul len sz)) (mvThen (inList (inV K k) cells G o) _) .no = cond (within (H.get b) off (Nat.mul len sz)) (mvThen (inList (inV H k) cells G o) _) .no
        rw [inList_agree ih hl]
    | func f a b A B hA hB => rfl
    | _ => rfl

/-! ## Flat results leave the heap -/

theorem bkThen_ok' {r : Bk} {k : V → CH → List (Nat × Id) → Bk} {v : V} {G : CH} {m : List (Nat × Id)} (h : bkThen r k = .ok v G m) : ∃ v₁ G₁ m₁, r = .ok v₁ G₁ m₁ ∧ k v₁ G₁ m₁ = .ok v G m := by
  cases r with
  | no => cases h
  | ok v₁ G₁ m₁ => exact ⟨v₁, G₁, m₁, rfl, h⟩

/-- moving back a value that names no memory -/
def OutFlat (f : V → BkK) : Prop := ∀ {u : V} {K : CH} {m : List (Nat × Id)} {u' : V} {K' : CH} {m' : List (Nat × Id)}, f u K m = .ok u' K' m' → flatV u' = true → K' = K ∧ m' = m ∧ ∀ J n, f u J n = .ok u' J n

theorem outList_flat {f : V → BkK} (ih : OutFlat f) : OutFlat (outList f) := by
  intro l
  induction l with
  | nil => intro K m u' K' m' h hf; cases (show Bk.ok .nil K m = .ok u' K' m' from h); exact ⟨rfl, rfl, fun J n => rfl⟩
  | cons x l _ ihl =>
    intro K m u' K' m' h hf
    obtain ⟨v₁, K₁, m₁, g1, g2⟩ := bkThen_ok' (show bkThen (f x K m) (fun x H m => bkThen (outList f l H m) (fun l H m => .ok (.cons x l) H m)) = .ok u' K' m' from h)
    obtain ⟨l₂, K₂, m₂, g3, g4⟩ := bkThen_ok' g2
    cases g4
    have hf : cond (flatV v₁) (flatV l₂) false = true := hf
    cases hx : flatV v₁ with
    | false => rw [hx] at hf; cases hf
    | true =>
      rw [hx] at hf
      obtain ⟨rfl, rfl, q1⟩ := ih g1 hx
      obtain ⟨rfl, rfl, q2⟩ := ihl g3 hf
      refine ⟨rfl, rfl, fun J n => ?_⟩
      show bkThen (f x J n) (fun x H m => bkThen (outList f l H m) (fun l H m => .ok (.cons x l) H m)) = _
      rw [q1]
      show bkThen (outList f l J n) (fun l H m => .ok (.cons v₁ l) H m) = _
      rw [q2]; rfl
  | _ => intro K m u' K' m' h; cases (show Bk.no = .ok u' K' m' from h)

theorem out_flat (G : CH) (os : List (Id × Nat)) : ∀ k, OutFlat (outV G os k) := by
  intro k
  induction k with
  | zero => intro u K m u' K' m' h; cases (show Bk.no = .ok u' K' m' from h)
  | succ k ih =>
    intro u K m u' K' m' h hf
    cases u with
    | bool b => cases h; exact ⟨rfl, rfl, fun J n => rfl⟩
    | int kk n =>
      have e : ∀ J n', outV G os (k + 1) (.int kk n) J n' = .ok (.int kk n) J n' := fun J n' => by
        show forceC (fun n => outStay (.int kk n)) n J n' = _
        rw [forceC_eq]; rfl
      rw [e] at h; cases h; exact ⟨rfl, rfl, e⟩
    | str s => cases h; exact ⟨rfl, rfl, fun J n => rfl⟩
    | nils => cases h; exact ⟨rfl, rfl, fun J n => rfl⟩
    | nilf => cases h; cases hf
    | func f a b =>
      cases a <;> first | (cases h; done) | skip
      cases b <;> first | (cases h; done) | skip
      cases h; cases hf
    | agg l =>
      obtain ⟨l₁, K₁, m₁, g1, g2⟩ := bkThen_ok' (show bkThen (outList (outV G os k) l K m) (fun l H m => .ok (.agg l) H m) = .ok u' K' m' from h)
      cases g2
      obtain ⟨rfl, rfl, q⟩ := outList_flat (f := outV G os k) @ih g1 hf
      exact ⟨rfl, rfl, fun J n => by show bkThen (outList (outV G os k) l J n) (fun l H m => .ok (.agg l) H m) = _; rw [q]; rfl⟩
    | tup l =>
      obtain ⟨l₁, K₁, m₁, g1, g2⟩ := bkThen_ok' (show bkThen (outList (outV G os k) l K m) (fun l H m => .ok (.tup l) H m) = .ok u' K' m' from h)
      cases g2
      obtain ⟨rfl, rfl, q⟩ := outList_flat (f := outV G os k) @ih g1 hf
      exact ⟨rfl, rfl, fun J n => by show bkThen (outList (outV G os k) l J n) (fun l H m => .ok (.tup l) H m) = _; rw [q]; rfl⟩
    | slice b off len cc sz =>
      exfalso
      have h : outSlice G os (outV G os k) b off len cc sz K m = .ok u' K' m' := h
      unfold outSlice at h
      cases hn : nthO os b.num with
      | some bo => rw [hn] at h; cases h; cases hf
      | none =>
        rw [hn] at h
        have h : onCells outNo (outNew (outV G os k) b off len cc sz) (G.get b) K m = .ok u' K' m' := h
        have key : ∀ cs e st sh, outNew (outV G os k) b off len cc sz cs e st sh K m = .ok u' K' m' → False := by
          intro cs e st sh h
          unfold outNew at h
          cases hm : findM b.num m with
          | some n => rw [hm] at h; cases h; cases hf
          | none =>
            rw [hm] at h
            obtain ⟨_, h1⟩ := cond_ok (show cond (Nat.beq st 0) _ Bk.no = .ok u' K' m' from h) Bk.ok_ne
            obtain ⟨c₁, K₁, m₁, _, h2⟩ := bkThen_ok' h1
            cases hm1 : findM b.num m₁ with
            | some id => rw [hm1] at h2; cases h2
            | none =>
              rw [hm1] at h2
              have h2 : alloc Bk.no K₁ (.cells c₁ e 0 []) (fun n H => .ok (.slice n off len cc sz) H ((b.num, n) :: m₁)) = .ok u' K' m' := h2
              cases K₁ with
              | mk n f t =>
                cases n with
                | over => cases h2
                | mk _ _ _ _ _ _ => cases h2; cases hf
        cases hg : G.get b with
        | none => rw [hg] at h; cases h
        | some x =>
          rw [hg] at h
          cases x with
          | cells cs e st sh =>
            have h : (cond (Nat.beq st 2) outNo (outNew (outV G os k) b off len cc sz cs e st sh)) K m = .ok u' K' m' := h
            cases hb : Nat.beq st 2 with
            | true => rw [hb] at h; cases h
            | false => rw [hb] at h; exact key cs e st sh h
          | arg cs => exact key cs 0 1 [] h
          | _ => cases h
    | _ => cases h

/-! ## Calls on plain data with flat results -/

def CongPure (P : Program) (E : Ev) : Prop := ∀ {f : FuncId} {args : V} {vs : List Value} {φ : Phi} {H K J : CH} {w : World} {v : V}, pureFn P f = true → Rel P φ H w → LR φ args vs → Agree φ H K →
  E.call f args H = .ok v J → flatV v = true → J = H ∧ E.call f args K = .ok v K

theorem cong_step (P : Program) (E : Ev) : CongPure P (stepEv P E) := by
  intro f args vs φ H K J w v hp h hl ha hr hf
  obtain ⟨br, hb, hr1⟩ := opt_ok (show opt R.no (cond (pureFn P f) (pureCall P E f args H) (plainCall P E f args H)) (bodyOf P f) = .ok v J from hr) R.ok_ne
  rw [hp] at hr1
  have hr1 : pureCall P E f args H br = .ok v J := hr1
  suffices hh : J = H ∧ pureCall P E f args K br = .ok v K by
    refine ⟨hh.1, ?_⟩
    show opt R.no (cond (pureFn P f) (pureCall P E f args K) (plainCall P E f args K)) (bodyOf P f) = _
    rw [hb, hp]
    exact hh.2
  unfold pureCall at hr1 ⊢
  rw [inList_agree (inV_agree h ha 8) hl]
  cases hm : inList (inV H 8) args H0 [] with
  | no => rw [hm] at hr1; cases hr1
  | ok args' G os =>
    rw [hm] at hr1
    have hr1 : R.rec (motive := fun _ => R) .no (fun v G => bkR (outV G os 8 v H [])) (plainCall P E f args' G br) = .ok v J := hr1
    show J = H ∧ R.rec (motive := fun _ => R) .no (fun v G => bkR (outV G os 8 v K [])) (plainCall P E f args' G br) = _
    cases hc : plainCall P E f args' G br with
    | no => rw [hc] at hr1; cases hr1
    | ok u G' =>
      rw [hc] at hr1
      have hr1 : bkR (outV G' os 8 u H []) = .ok v J := hr1
      show J = H ∧ bkR (outV G' os 8 u K []) = _
      cases ho : outV G' os 8 u H [] with
      | no => rw [ho] at hr1; cases hr1
      | ok u' K' m' =>
        rw [ho] at hr1
        cases hr1
        obtain ⟨q1, _, q2⟩ := out_flat G' os 8 ho hf
        exact ⟨q1, by rw [q2 K []]; rfl⟩

theorem cong_run (P : Program) (n : Nat) : CongPure P (runEv P n) := by
  cases n with
  | zero => intro f args vs φ H K J w v _ _ _ _ hr; cases (show R.no = .ok v J from hr)
  | succ n => exact cong_step P (runEv P n)

/-! ## Operations that read -/

/-- what an operation is that only reads -/
def CallRead (P : Program) (ld : Bool) (c : Callee) : Prop := match c with
  | .builtin .len => ld = true
  | .builtin .min => ld = true
  | .builtin .max => ld = true
  | .value (.func f) => ld = false ∧ pureFn P f = true
  | _ => False
def ReadOp (P : Program) (ld : Bool) (o : Op) : Prop := match o with
  | .load .. => ld = true
  | .lookup .. => ld = true
  | .call c => CallRead P ld c.callee
  | _ => False

theorem loose_read {o : Oper} {ld : Bool} (h : looseMode P o = .read ld) : ReadOp P ld o.op := by
  unfold looseMode at h
  unfold ReadOp
  cases ho : o.op with
  | load t x => rw [ho] at h; cases h; rfl
  | lookup t x y ok => rw [ho] at h; cases h; rfl
  | alloc e =>
    rw [ho] at h
    have h : (if (!tied o && o.guard.isNone && o.dst.isSome) = true then M0.pre else .quiet) = .read ld := h
    split at h <;> cases h
  | call c =>
    rw [ho] at h
    obtain ⟨callee, args, ts⟩ := c
    have h : callMode P o.type callee = .read ld := h
    unfold callMode at h
    show CallRead P ld callee
    cases callee with
    | builtin b => cases b <;> first | (cases h; rfl) | cases h
    | invoke _ _ => cases h
    | value f =>
      cases f with
      | func g =>
        have h : (if (pureFn P g && flatT P 10 o.type) = true then M0.read false else .quiet) = .read ld := h
        split at h
        · rename_i hp; cases h; exact ⟨rfl, (Bool.and_eq_true_iff.1 hp).1⟩
        · cases h
      | _ => cases h
  | _ => rw [ho] at h; cases h

theorem mode_read {ops : List Oper} {i : Nat} {o : Oper} {ld : Bool} (h : modeOf P ops i o = .read ld) : ReadOp P ld o.op := by
  unfold modeOf at h
  split at h
  · exact loose_read h
  · cases h

theorem pure1_some {o : Option V} {J : CH} (h : pure1 H o = .ok v J) : o = some v := by
  cases o with
  | none => cases h
  | some x => cases h; rfl

/-- READING IN A HEAP THAT IS ALIKE. -/
theorem read_cong (hG : CongPure P E) (h : Rel P φ H w) (ha : Agree φ H K) {tm : TT} {n : Nat} {tmps : Array Value} (htm : TmR φ tm tmps) (hn : n = tmps.size) {o : Op} (hok : o.operands.toList.all (okO n) = true) {ld : Bool} (hro : ReadOp P ld o) {H' : CH}
    (hr : readOp P E ld tm H o = .ok v H') : H' = H ∧ readOp P E ld tm K o = .ok v K := by
  subst hn
  have hop : ∀ x ∈ o.operands, ∃ xv, VR φ (evalO tm x) xv := fun x hx => ⟨_, evalO_rel (a := ⟨tmps, []⟩) htm (List.all_eq_true.1 hok x (by simpa using hx))⟩
  have fin : ∀ {c : Bool} {J J' : CH}, (cond (cond ld true (flatV v)) (R.ok v J) .no = .ok v J') → cond ld true (flatV v) = true ∧ J' = J := by
    intro c J J' q
    cases hq : cond ld true (flatV v) with
    | true => rw [hq] at q; cases q; exact ⟨rfl, rfl⟩
    | false => rw [hq] at q; cases q
  -- what it comes to
  have key : ∀ {x : V} {J : CH}, evOp P E tm H o = .ok x J → cond ld true (flatV x) = true → ∃ J', evOp P E tm K o = .ok x J' := by
    intro x J q hfl
    cases o with
    | load t y =>
      obtain ⟨b, off, e1, q1⟩ := onPtr_ok (show onPtr .no (oLoad P t H) (evalO tm y) = .ok x J from q) R.ok_ne
      have q2 := pure1_some q1
      obtain ⟨yv, hy⟩ := hop y (by simp [Op.operands])
      rw [e1] at hy
      refine ⟨K, ?_⟩
      show onPtr .no (oLoad P t K) (evalO tm y) = _
      rw [e1]
      show pure1 K (loadV P t K b off) = _
      cases hy with
      | ptr _ _ k hk => rw [loadV_get (ha b k hk), q2]; rfl
    | lookup t y z ok =>
      have q2 := pure1_some (show pure1 H (lookupV P H t (evalO tm y) (evalO tm z) ok) = .ok x J from q)
      obtain ⟨yv, hy⟩ := hop y (by simp [Op.operands])
      refine ⟨K, ?_⟩
      show pure1 K (lookupV P K t (evalO tm y) (evalO tm z) ok) = _
      rw [lookupV_agree ha hy, q2]; rfl
    | call c =>
      obtain ⟨callee, args, ts⟩ := c
      have hargs : ∃ vs, LR φ (evalL tm args.toList) vs := ⟨_, evalL_rel (a := ⟨tmps, []⟩) htm (by
        rw [List.all_eq_true]; intro y hy; exact List.all_eq_true.1 hok y (by simp only [Op.operands, Call.operands, Array.toList_append, List.mem_append]; exact .inr hy))⟩
      obtain ⟨vs, hargs⟩ := hargs
      cases callee with
      | builtin b =>
        have q : oBuiltin P b ts.toList (evalL tm args.toList) H = .ok x J := q
        cases b with
        | len =>
          unfold oBuiltin at q
          refine ⟨K, ?_⟩
          show oBuiltin P .len ts.toList (evalL tm args.toList) K = _
          unfold oBuiltin
          simp only at q ⊢
          split at q
          · rename_i t hts
            rcases onList_ok q R.ok_ne with ⟨_, q1⟩ | ⟨y, l, e1, q1⟩
            · cases q1
            · rcases onList_ok q1 R.ok_ne with ⟨e2, q2⟩ | ⟨_, _, _, q2⟩
              · have q3 := pure1_some q2
                rw [e1] at hargs ⊢
                obtain ⟨yv, vs', rfl, hy, _⟩ := LR.inv_cons hargs
                subst e2
                show pure1 K (lenB P K t y) = _
                rw [lenB_agree ha hy, q3]; rfl
              · cases q2
          · cases q
        | min =>
          rcases onList_ok (show onList .no .no (fun x l => pure1 H (foldV minV l x)) (evalL tm args.toList) = .ok x J from q) R.ok_ne with ⟨_, q1⟩ | ⟨y, l, e1, q1⟩
          · cases q1
          · have q3 := pure1_some q1
            refine ⟨K, ?_⟩
            show onList .no .no (fun x l => pure1 K (foldV minV l x)) (evalL tm args.toList) = _
            rw [e1]; show pure1 K (foldV minV l y) = _; rw [q3]; rfl
        | max =>
          rcases onList_ok (show onList .no .no (fun x l => pure1 H (foldV maxV l x)) (evalL tm args.toList) = .ok x J from q) R.ok_ne with ⟨_, q1⟩ | ⟨y, l, e1, q1⟩
          · cases q1
          · have q3 := pure1_some q1
            refine ⟨K, ?_⟩
            show onList .no .no (fun x l => pure1 K (foldV maxV l x)) (evalL tm args.toList) = _
            rw [e1]; show pure1 K (foldV maxV l y) = _; rw [q3]; rfl
        | _ => exact hro.elim
      | invoke _ _ => exact hro.elim
      | value f =>
        cases f with
        | func g =>
          obtain ⟨rfl, hp⟩ : ld = false ∧ pureFn P g = true := hro
          exact ⟨K, (hG hp h hargs ha (show E.call g (evalL tm args.toList) H = .ok x J from q) hfl).2⟩
        | _ => exact hro.elim
    | _ => exact hro.elim
  unfold readOp at hr ⊢
  cases q : evOp P E tm H o with
  | no => rw [q] at hr; cases hr
  | ok x J =>
    rw [q] at hr
    have hr : cond (cond ld true (flatV x)) (R.ok x H) .no = .ok v H' := hr
    cases hq : cond ld true (flatV x) with
    | false => rw [hq] at hr; cases hr
    | true =>
      rw [hq] at hr
      cases hr
      obtain ⟨J', q'⟩ := key q hq
      refine ⟨rfl, ?_⟩
      rw [q']
      show cond (cond ld true (flatV v)) (R.ok v K) .no = _
      rw [hq]; rfl

/-- reading leaves the heap -/
theorem read_heap (hG : CongPure P E) (h : Rel P φ H w) {tm : TT} {tmps : Array Value} (htm : TmR φ tm tmps) {o : Op} (hok : o.operands.toList.all (okO tmps.size) = true) {ld : Bool} (hro : ReadOp P ld o) {J : CH}
    (q : evOp P E tm H o = .ok v J) (hfl : cond ld true (flatV v) = true) : J = H := by
  cases o with
  | load t y =>
    obtain ⟨b, off, e1, q1⟩ := onPtr_ok (show onPtr .no (oLoad P t H) (evalO tm y) = .ok v J from q) R.ok_ne
    exact (pure1_ok q1).2
  | lookup t y z ok => exact (pure1_ok (show pure1 H (lookupV P H t (evalO tm y) (evalO tm z) ok) = .ok v J from q)).2
  | call c =>
    obtain ⟨callee, args, ts⟩ := c
    have hargs : LR φ (evalL tm args.toList) _ := evalL_rel (a := ⟨tmps, []⟩) htm (by
      rw [List.all_eq_true]; intro y hy; exact List.all_eq_true.1 hok y (by simp only [Op.operands, Call.operands, Array.toList_append, List.mem_append]; exact .inr hy))
    cases callee with
    | builtin b =>
      have q : oBuiltin P b ts.toList (evalL tm args.toList) H = .ok v J := q
      cases b with
      | len =>
        unfold oBuiltin at q
        simp only at q
        split at q
        · rcases onList_ok q R.ok_ne with ⟨_, q1⟩ | ⟨y, l, e1, q1⟩
          · cases q1
          · rcases onList_ok q1 R.ok_ne with ⟨e2, q2⟩ | ⟨_, _, _, q2⟩
            · exact (pure1_ok q2).2
            · cases q2
        · cases q
      | min =>
        rcases onList_ok (show onList .no .no (fun x l => pure1 H (foldV minV l x)) (evalL tm args.toList) = .ok v J from q) R.ok_ne with ⟨_, q1⟩ | ⟨y, l, e1, q1⟩
        · cases q1
        · exact (pure1_ok q1).2
      | max =>
        rcases onList_ok (show onList .no .no (fun x l => pure1 H (foldV maxV l x)) (evalL tm args.toList) = .ok v J from q) R.ok_ne with ⟨_, q1⟩ | ⟨y, l, e1, q1⟩
        · cases q1
        · exact (pure1_ok q1).2
      | _ => exact hro.elim
    | invoke _ _ => exact hro.elim
    | value f =>
      cases f with
      | func g =>
        obtain ⟨rfl, hp⟩ : ld = false ∧ pureFn P g = true := hro
        exact (hG hp h hargs (fun _ _ _ => rfl) (show E.call g (evalL tm args.toList) H = .ok v J from q) hfl).1
      | _ => exact hro.elim
  | _ => exact hro.elim
end Vam
