/- The plain machine (VamEq): part of a proof by a machine of plain values that is proved right. -/
import Derived.Test.YtnkmhgojbinhkabVamOps2
import Derived.ChangeKeysEq
import Derived.Laws.StructEq
import Derived.IntWalk
namespace Vam
set_option linter.unusedVariables false
set_option linter.unusedSimpArgs false
open Go
variable {P : Program} {φ : Phi} {H H' : CH} {w : World} {v : V}

/-! ## Numbers -/

theorem cond_true' {α : Type} (a b : α) : cond true a b = a := rfl
theorem cond_false' {α : Type} (a b : α) : cond false a b = b := rfl
theorem wrapP_eq (m : Nat) : wrapP m = IntKind.i64.wrap (Int.ofNat m) := by
  unfold wrapP
  generalize hc : Nat.ble m 9223372036854775807 = c
  cases c with
  | false => exact cond_false' _ _
  | true =>
    have h1 : m ≤ 9223372036854775807 := Nat.le_of_ble_eq_true hc
    have h2 : (Int.ofNat m) = (m : Int) := rfl
    have h3 : IntKind.i64.wrap (m : Int) = (m : Int) := IntWalk.i64_in _ (by omega)
    rw [h2, h3]; exact cond_true' _ _
theorem wrapN_eq (m : Nat) : wrapN m = IntKind.i64.wrap (Int.negSucc m) := by
  unfold wrapN
  generalize hc : Nat.ble m 9223372036854775807 = c
  cases c with
  | false => exact cond_false' _ _
  | true =>
    have h1 : m ≤ 9223372036854775807 := Nat.le_of_ble_eq_true hc
    have h2 : (Int.negSucc m) = -((m : Int) + 1) := rfl
    have h3 : IntKind.i64.wrap (-((m : Int) + 1)) = -((m : Int) + 1) := IntWalk.i64_in _ (by omega)
    rw [h2, h3]; exact cond_true' _ _
theorem wrapF_eq (k : IntKind) (n : Int) : wrapF k n = k.wrap n := by
  cases k <;> try rfl
  cases n with
  | ofNat m => exact wrapP_eq m
  | negSucc m => exact wrapN_eq m

theorem ble_eq (m n : Nat) : Nat.ble m n = decide (m ≤ n) := by
  cases h : Nat.ble m n with
  | true => simp [Nat.le_of_ble_eq_true h]
  | false =>
    have : ¬ m ≤ n := fun hle => by rw [Nat.ble_eq_true_of_le hle] at h; cases h
    simp [this]
theorem nbeq_eq (m n : Nat) : Nat.beq m n = decide (m = n) := by
  cases h : Nat.beq m n with
  | true => simp [Nat.eq_of_beq_eq_true h]
  | false => simp [Nat.ne_of_beq_eq_false h]

theorem ile_eq (a b : Int) : ile a b = decide (a ≤ b) := by
  cases a with
  | ofNat m => cases b with
    | ofNat n => show Nat.ble m n = _; rw [ble_eq]; congr 1; simp
    | negSucc n => show false = _; symm; rw [decide_eq_false_iff_not]; simp only [Int.negSucc_eq, Int.ofNat_eq_natCast]; omega
  | negSucc m => cases b with
    | ofNat n => show true = _; symm; rw [decide_eq_true_iff]; simp only [Int.negSucc_eq, Int.ofNat_eq_natCast]; omega
    | negSucc n => show Nat.ble n m = _; rw [ble_eq]; congr 1; simp only [Int.negSucc_eq, eq_iff_iff]; omega

theorem ieq_eq (a b : Int) : ieq a b = (a == b) := by
  have key : ieq a b = decide (a = b) := by
    cases a with
    | ofNat m => cases b with
      | ofNat n => show Nat.beq m n = _; rw [nbeq_eq]; congr 1; simp only [Int.ofNat_eq_natCast, eq_iff_iff]; omega
      | negSucc n => show false = _; symm; rw [decide_eq_false_iff_not]; simp only [Int.negSucc_eq, Int.ofNat_eq_natCast]; omega
    | negSucc m => cases b with
      | ofNat n => show false = _; symm; rw [decide_eq_false_iff_not]; simp only [Int.negSucc_eq, Int.ofNat_eq_natCast]; omega
      | negSucc n => show Nat.beq m n = _; rw [nbeq_eq]; congr 1; simp only [Int.negSucc_eq, eq_iff_iff]; omega
  rw [key]; rfl

theorem kEq_true {a b : IntKind} (h : kEq a b = true) : a = b := by cases a <;> cases b <;> first | rfl | cases h

theorem natsEq_eq (a b : List Nat) : natsEq a b = (a == b) := by
  induction a generalizing b with
  | nil => cases b <;> rfl
  | cons x a ih =>
    cases b with
    | nil => rfl
    | cons y b =>
      show cond (Nat.beq x y) (natsEq a b) false = _
      rw [ih, nbeq_eq]
      by_cases h : x = y
      · subst h; simp [cond]
      · simp [h, cond]

theorem bytes_inj {a b : ByteArray} : (bytesOf a == bytesOf b) = (a.toList == b.toList) := by
  rw [ByteArray.toList_eq, ByteArray.toList_eq]
  unfold bytesOf
  generalize a.data.toList = x
  generalize b.data.toList = y
  induction x generalizing y with
  | nil => cases y <;> rfl
  | cons u x ih =>
    cases y with
    | nil => rfl
    | cons v y =>
      have e1 : (u.toNat == v.toNat) = (u == v) := by
        by_cases h : u = v
        · subst h; simp
        · have : ¬ u.toNat = v.toNat := fun e => h (UInt8.toNat_inj.1 e)
          rw [beq_eq_false_iff_ne.2 h, beq_eq_false_iff_ne.2 this]
      simp only [List.map_cons, List.cons_beq_cons, e1, ih]

/-! ## Equality by types -/

noncomputable def eqN (P : Program) (d : Nat) : TypeId → V → V → Option Bool :=
  Nat.rec (motive := fun _ => TypeId → V → V → Option Bool) (fun _ _ _ => none) (fun _ ih => eqStep P ih) d
theorem eqT_eq : eqT P = eqN P 10 := rfl

theorem eqFields_nil (ih : TypeId → V → V → Option Bool) (xs ys : V) : eqFields P ih xs ys [] = some true := rfl
theorem eqFields_cons (ih : TypeId → V → V → Option Bool) (xs ys : V) (f : Field) (fs : List Field) : eqFields P ih xs ys (f :: fs) = (match f.name == "_" with
    | true => eqFields P ih xs ys fs
    | false => opt none (fun x => opt none (fun y => opt none (fun b => cond b (eqFields P ih xs ys fs) (some false)) (ih f.type x y)) (partV P f.type ys f.offset)) (partV P f.type xs f.offset)) := rfl
theorem eqElems_zero (ih : TypeId → V → V → Option Bool) (e : TypeId) (xs ys : V) (i : Nat) : eqElems P ih e xs ys 0 i = some true := rfl
theorem eqElems_succ (ih : TypeId → V → V → Option Bool) (e : TypeId) (xs ys : V) (n i : Nat) : eqElems P ih e xs ys (n + 1) i =
    opt none (fun x => opt none (fun y => opt none (fun b => cond b (eqElems P ih e xs ys n (i + 1)) (some false)) (ih e x y)) (partV P e ys (i * P.cellsOf e))) (partV P e xs (i * P.cellsOf e)) := rfl

theorem nilEq_some {a b r : Bool} (h : nilEq a b = some r) : (a = true ∨ b = true) ∧ r = (a && b) := by
  cases a <;> cases b <;> first | (cases h; exact ⟨by simp, rfl⟩) | cases h

theorem isNils_ok {v : V} {α : Type} {f : Bool → Option α} {r : α} (h : isNils none f v = some r) : (∃ b o l c s, v = .slice b o l c s ∧ f false = some r) ∨ (v = .nils ∧ f true = some r) := by
  rcases onSlice_ok (no := none) h (by simp) with ⟨b, o, l, c, s, h1, h2⟩ | ⟨h1, h2⟩
  · exact .inl ⟨b, o, l, c, s, h1, h2⟩
  · exact .inr ⟨h1, h2⟩
theorem isNilm_ok {v : V} {α : Type} {f : Bool → Option α} {r : α} (h : isNilm none f v = some r) : (∃ b, v = .map b ∧ f false = some r) ∨ (v = .nilm ∧ f true = some r) := by
  rcases onMap_ok (no := none) h (by simp) with ⟨b, h1, h2⟩ | ⟨h1, h2⟩
  · exact .inl ⟨b, h1, h2⟩
  · exact .inr ⟨h1, h2⟩
theorem isNilp_ok {v : V} {α : Type} {f : Bool → Option α} {r : α} (h : isNilp none f v = some r) : (∃ b o, v = .ptr b o ∧ f false = some r) ∨ (v = .nilp ∧ f true = some r) := by
  cases v <;> first | exact .inl ⟨_, _, rfl, h⟩ | exact .inr ⟨rfl, h⟩ | cases h
theorem isNilf_ok {v : V} {α : Type} {f : Bool → Option α} {r : α} (h : isNilf none f v = some r) : ((∃ g a b, v = .func g a b) ∨ (∃ l, v = .yield l)) ∧ f false = some r ∨ (v = .nilf ∧ f true = some r) := by
  cases v <;> first | exact .inl ⟨.inl ⟨_, _, _, rfl⟩, h⟩ | exact .inl ⟨.inr ⟨_, rfl⟩, h⟩ | exact .inr ⟨rfl, h⟩ | cases h

theorem eqN_rel : ∀ (d : Nat) {t : TypeId} {x y : V} {r : Bool} {xv yv : Value}, eqN P d t x y = some r → VR φ x xv → VR φ y yv →
    ∀ (D : Nat), d ≤ D → ∀ w : World, (Op.equalIn D t xv yv).run P w = .ok r w := by
  intro d
  induction d with
  | zero => intro t x y r xv yv h; cases h
  | succ d ih =>
    intro t x y r xv yv h hx hy D hD w
    obtain ⟨D, rfl⟩ : ∃ D', D = D' + 1 := ⟨D - 1, by omega⟩
    change eqStep P (eqN P d) t x y = some r at h
    unfold eqStep at h
    cases ht : tyOf P t with
    | struct fs =>
      rw [ht] at h
      obtain ⟨hp, h1⟩ := cond_ok' h (by simp)
      obtain ⟨xs, rfl, h2⟩ := onAgg_ok (no := none) h1 (by simp)
      obtain ⟨ys, rfl, h3⟩ := onAgg_ok (no := none) h2 (by simp)
      obtain ⟨F, g1, g2, g3⟩ := tyOf_struct ht
      cases hx with
      | agg _ cs hl =>
        cases hy with
        | agg _ ds hm =>
          have hF : P.fieldsOf t = F := by simp [Program.fieldsOf, g1]
          rw [run_equalIn_struct w D t cs ds (by rw [hF]; exact g1) hp, hF, g2]
          clear ht h h1 h2 g1 g2 g3 hF hp
          induction fs generalizing r with
          | nil => rw [eqFields_nil] at h3; cases h3; simp [Op.eqFields]
          | cons f fs ihf =>
            rw [eqFields_cons] at h3
            cases hn : f.name == "_" with
            | true =>
              rw [hn] at h3
              have : f.name = "_" := by simpa using hn
              simp only [Op.eqFields, this, ne_eq, not_true_eq_false, if_false]
              exact ihf h3
            | false =>
              rw [hn] at h3
              have hne : f.name ≠ "_" := by simpa using hn
              obtain ⟨a, k1, h4⟩ := opt_ok (no := none) h3 (by simp)
              obtain ⟨b, k2, h5⟩ := opt_ok (no := none) h4 (by simp)
              obtain ⟨c, k3, h6⟩ := opt_ok (no := none) h5 (by simp)
              obtain ⟨av, p1, p2⟩ := partV_rel hl k1 w
              obtain ⟨bv, q1, q2⟩ := partV_rel hm k2 w
              have e := ih k3 p2 q2 D (by omega) w
              simp only [Array.toArray_toList] at p1 q1
              simp only [Op.eqFields, hne, ne_eq, not_false_eq_true, if_true, Sem.run_bind, p1, q1, e, Result.andThen_ok]
              cases c with
              | false => cases h6; simp
              | true => simpa using ihf h6
    | array n e =>
      rw [ht] at h
      obtain ⟨xs, rfl, h2⟩ := onAgg_ok (no := none) h (by simp)
      obtain ⟨ys, rfl, h3⟩ := onAgg_ok (no := none) h2 (by simp)
      obtain ⟨g1, g2⟩ := tyOf_array ht
      obtain ⟨i, hi⟩ := (sized_iff g2).1
      cases hx with
      | agg _ cs hl =>
        cases hy with
        | agg _ ds hm =>
          rw [run_equalIn_array w D cs ds g1 hi, List.range_eq_range']
          clear ht h h2 g1 g2 hi
          generalize 0 = j at h3
          induction n generalizing r j with
          | zero => rw [eqElems_zero] at h3; cases h3; simp [Op.eqItems]
          | succ n ihn =>
            rw [eqElems_succ] at h3
            obtain ⟨a, k1, h4⟩ := opt_ok (no := none) h3 (by simp)
            obtain ⟨b, k2, h5⟩ := opt_ok (no := none) h4 (by simp)
            obtain ⟨c, k3, h6⟩ := opt_ok (no := none) h5 (by simp)
            obtain ⟨av, p1, p2⟩ := partV_rel hl k1 w
            obtain ⟨bv, q1, q2⟩ := partV_rel hm k2 w
            have e := ih k3 p2 q2 D (by omega) w
            simp only [Array.toArray_toList] at p1 q1
            simp only [List.range'_succ, Op.eqItems, Sem.run_bind, p1, q1, e, Result.andThen_ok]
            cases c with
            | false => cases h6; simp
            | true => simpa using ihn (j + 1) h6
    | slice e =>
      rw [ht] at h
      have g1 := (tyOf_slice ht).1
      rcases isNils_ok h with ⟨b, o, l, c, s, rfl, h1⟩ | ⟨rfl, h1⟩ <;> rcases isNils_ok h1 with ⟨b', o', l', c', s', rfl, h2⟩ | ⟨rfl, h2⟩ <;>
        obtain ⟨h3, rfl⟩ := nilEq_some h2 <;> cases hx <;> cases hy <;> simp at h3 <;> simp [Op.equalIn, run_underlying g1]
    | map k e =>
      rw [ht] at h
      have g1 := (tyOf_map ht).1
      rcases isNilm_ok h with ⟨b, rfl, h1⟩ | ⟨rfl, h1⟩ <;> rcases isNilm_ok h1 with ⟨b', rfl, h2⟩ | ⟨rfl, h2⟩ <;>
        obtain ⟨h3, rfl⟩ := nilEq_some h2 <;> cases hx <;> cases hy <;> simp at h3 <;> simp [Op.equalIn, run_underlying g1]
    | string =>
      rw [ht] at h
      obtain ⟨a, rfl, h1⟩ := onStr_ok (no := none) h (by simp)
      obtain ⟨b, rfl, h2⟩ := onStr_ok (no := none) h1 (by simp)
      cases h2
      cases hx; cases hy
      rw [run_equalIn_string w D t _ _ (tyOf_string ht), natsEq_eq, bytes_inj]
    | int k =>
      rw [ht] at h
      obtain ⟨ka, a, rfl, h1⟩ := onInt_ok (no := none) h (by simp)
      obtain ⟨kb, b, rfl, h2⟩ := onInt_ok (no := none) h1 (by simp)
      obtain ⟨h3, h4⟩ := cond_ok h2 (by simp)
      obtain rfl := kEq_true h3
      cases h4
      cases hx; cases hy
      rw [run_equalIn_int w D t ka k a b (tyOf_int ht), ieq_eq]
    | bool =>
      rw [ht] at h
      obtain ⟨a, rfl, h1⟩ := onBool_ok (no := none) h (by simp)
      obtain ⟨b, rfl, h2⟩ := onBool_ok (no := none) h1 (by simp)
      cases h2
      cases hx; cases hy
      rw [run_equalIn_bool' w D t a b (tyOf_bool ht)]
      cases a <;> cases b <;> rfl
    | pointer =>
      rw [ht] at h
      obtain ⟨e, g1⟩ := tyOf_pointer ht
      rcases isNilp_ok h with ⟨b, o, rfl, h1⟩ | ⟨rfl, h1⟩ <;> rcases isNilp_ok h1 with ⟨b', o', rfl, h2⟩ | ⟨rfl, h2⟩ <;>
        obtain ⟨h3, rfl⟩ := nilEq_some h2 <;> cases hx <;> cases hy <;> simp at h3 <;> simp [Op.equalIn, run_underlying g1]
    | func =>
      rw [ht] at h
      obtain ⟨e1, e2, e3, g1⟩ := tyOf_func ht
      rcases isNilf_ok h with ⟨⟨g, a, b, rfl⟩ | ⟨l, rfl⟩, h1⟩ | ⟨rfl, h1⟩ <;> rcases isNilf_ok h1 with ⟨⟨g', a', b', rfl⟩ | ⟨l', rfl⟩, h2⟩ | ⟨rfl, h2⟩ <;>
        obtain ⟨h3, rfl⟩ := nilEq_some h2 <;> cases hx <;> cases hy <;> simp at h3 <;> simp [Op.equalIn, run_underlying g1]
    | other => rw [ht] at h; cases h

theorem eqT_rel {t : TypeId} {x y : V} {r : Bool} {xv yv : Value} (h : eqT P t x y = some r) (hx : VR φ x xv) (hy : VR φ y yv) (w : World) :
    (Op.equal t xv yv).run P w = .ok r w := eqN_rel 10 h hx hy 10000 (by omega) w
end Vam
