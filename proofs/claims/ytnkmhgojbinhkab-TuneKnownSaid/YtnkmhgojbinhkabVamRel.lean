/- The plain machine (VamRel): part of a proof by a machine of plain values that is proved right. -/
import Derived.Test.YtnkmhgojbinhkabVamHeap
import Derived.CallsIn
import Derived.RangeFuncIn
import Derived.DefersIn
import Derived.OrdersIn
namespace Vam
set_option linter.unusedVariables false
set_option linter.unusedSimpArgs false
open Go

/-! ## Plain values and real ones -/

/-- where a plain block lies: the real block, from which cell on, how many cells there are from there on -/
structure Loc where
  r : Nat
  o : Nat
  m : Nat

abbrev Phi := Id → Option Loc

inductive T where
  | v (x : Value)
  | l (xs : List Value)

def CapOk (k : Loc) (off len cc sz cap : Nat) : Prop :=
  len ≤ capN cc ∧ (capE cc = true → cap = capN cc) ∧ (capE cc = false → capN cc ≤ cap ∧ off + cap * sz ≤ k.m)

inductive RR (φ : Phi) : V → T → Prop where
  | bool (b : Bool) : RR φ (.bool b) (.v (.bool b))
  | int (k : IntKind) (n : Int) : RR φ (.int k n) (.v (.int k n))
  | str (s : ByteArray) : RR φ (.str (bytesOf s)) (.v (.string s))
  | ptr (b : Id) (off : Nat) (k : Loc) : φ b = some k → RR φ (.ptr b off) (.v (.pointer (some ⟨k.r, k.o + off, none⟩)))
  | nilp : RR φ .nilp (.v (.pointer none))
  | slice (b : Id) (off len cc sz cap : Nat) (k : Loc) : φ b = some k → CapOk k off len cc sz cap →
      RR φ (.slice b off len cc sz) (.v (.slice (some ⟨k.r, k.o + off, none⟩) len cap))
  | nils : RR φ .nils (.v (.slice none 0 0))
  | map (b : Id) (k : Loc) : φ b = some k → RR φ (.map b) (.v (.map (some k.r)))
  | nilm : RR φ .nilm (.v (.map none))
  | func (f : FuncId) (a b : V) (A B : Array Value) : RR φ a (.l A.toList) → RR φ b (.l B.toList) → RR φ (.func f a b) (.v (.func (.func f) A B))
  | yield (b : Id) (k : Loc) : φ b = some k → RR φ (.yield b) (.v (.func (.yield k.r) #[] #[]))
  | nilf : RR φ .nilf (.v .nilFunc)
  | agg (l : V) (cs : Array Value) : RR φ l (.l cs.toList) → RR φ (.agg l) (.v (.agg cs))
  | tup (l : V) (cs : Array Value) : RR φ l (.l cs.toList) → RR φ (.tup l) (.v (.tuple cs))
  | nil : RR φ .nil (.l [])
  | cons (x l : V) (v : Value) (vs : List Value) : RR φ x (.v v) → RR φ l (.l vs) → RR φ (.cons x l) (.l (v :: vs))

abbrev VR (φ : Phi) (v : V) (x : Value) : Prop := RR φ v (.v x)
abbrev LR (φ : Phi) (v : V) (xs : List Value) : Prop := RR φ v (.l xs)

def Phi.le (φ ψ : Phi) : Prop := ∀ b k, φ b = some k → ψ b = some k
theorem Phi.le_refl (φ : Phi) : φ.le φ := fun _ _ h => h
theorem Phi.le_trans {φ ψ χ : Phi} (h : φ.le ψ) (k : ψ.le χ) : φ.le χ := fun b l hb => k b l (h b l hb)

theorem RR.mono {φ ψ : Phi} (hle : φ.le ψ) {v : V} {t : T} (h : RR φ v t) : RR ψ v t := by
  induction h with
  | bool b => exact .bool b
  | int k n => exact .int k n
  | str s => exact .str s
  | ptr b off k hk => exact .ptr b off k (hle _ _ hk)
  | nilp => exact .nilp
  | slice b off len cc sz cap k hk hc => exact .slice b off len cc sz cap k (hle _ _ hk) hc
  | nils => exact .nils
  | map b k hk => exact .map b k (hle _ _ hk)
  | nilm => exact .nilm
  | func f a b A B _ _ iha ihb => exact .func f a b A B iha ihb
  | yield b k hk => exact .yield b k (hle _ _ hk)
  | nilf => exact .nilf
  | agg l cs _ ih => exact .agg l cs ih
  | tup l cs _ ih => exact .tup l cs ih
  | nil => exact .nil
  | cons x l v vs _ _ ih1 ih2 => exact .cons x l v vs ih1 ih2

/-! ## Frames -/

/-- slot by slot; at most 1024 of them -/
def TmR (φ : Phi) (tm : TT) (tmps : Array Value) : Prop := tmps.size ≤ 1024 ∧ ∀ i, i < tmps.size → VR φ (tm.get i) (tmps.getD i Go.undef)

theorem TmR.mono {φ ψ : Phi} (hle : φ.le ψ) {tm : TT} {tmps : Array Value} (h : TmR φ tm tmps) : TmR ψ tm tmps :=
  ⟨h.1, fun i hi => (h.2 i hi).mono hle⟩

theorem D.of_num (n : Nat) (h : n < 16) : (D.of n).num = n := by
  have key : ∀ m : Fin 16, (D.of m.1).num = m.1 := by
    intro ⟨m, hm⟩
    have : m = 0 ∨ m = 1 ∨ m = 2 ∨ m = 3 ∨ m = 4 ∨ m = 5 ∨ m = 6 ∨ m = 7 ∨ m = 8 ∨ m = 9 ∨ m = 10 ∨ m = 11 ∨ m = 12 ∨ m = 13 ∨ m = 14 ∨ m = 15 := by omega
    rcases this with h | h | h | h | h | h | h | h | h | h | h | h | h | h | h | h <;> subst h <;> rfl
  exact key ⟨n, h⟩

theorem D.of_inj {a b : Nat} (ha : a < 16) (hb : b < 16) (h : D.of a = D.of b) : a = b := by
  have := congrArg D.num h
  rwa [D.of_num a ha, D.of_num b hb] at this

theorem Q4.of_inj {a b : Nat} (ha : a < 4) (hb : b < 4) (h : Q4.of a = Q4.of b) : a = b := by
  have key : ∀ x y : Fin 4, Q4.of x.1 = Q4.of y.1 → x.1 = y.1 := by
    intro ⟨x, hx⟩ ⟨y, hy⟩ h
    have : x = 0 ∨ x = 1 ∨ x = 2 ∨ x = 3 := by omega
    have : y = 0 ∨ y = 1 ∨ y = 2 ∨ y = 3 := by omega
    rcases ‹x = 0 ∨ _› with rfl | rfl | rfl | rfl <;> rcases ‹y = 0 ∨ _› with rfl | rfl | rfl | rfl <;> first | rfl | (exact absurd h (by intro e; cases e))
  exact key ⟨a, ha⟩ ⟨b, hb⟩ h
theorem slot_inj {i j : Nat} (hi : i < 1024) (hj : j < 1024) (h : Q4.of (i / 256) = Q4.of (j / 256) ∧ D.of (i / 16 % 16) = D.of (j / 16 % 16) ∧ D.of (i % 16) = D.of (j % 16)) : i = j := by
  have h1 := Q4.of_inj (by omega) (by omega) h.1
  have h2 := D.of_inj (by omega) (by omega) h.2.1
  have h3 := D.of_inj (by omega) (by omega) h.2.2
  omega
theorem TT.get_eq (t : TT) (i : Nat) : t.get i = RR.get (TT.part (Q4.of (i / 256)) t) (D.of (i / 16 % 16)) (D.of (i % 16)) := rfl
theorem TT.set_eq (x : V) (t : TT) (i : Nat) : TT.set x t i = TT.put (Q4.of (i / 256)) (RR.set x (TT.part (Q4.of (i / 256)) t) (D.of (i / 16 % 16)) (D.of (i % 16))) t := rfl
instance : DecidableEq Q4 := fun a b => by cases a <;> cases b <;> first | exact isTrue rfl | exact isFalse (by intro e; cases e)
theorem TT.part_put (q q' : Q4) (r : RowW) (t : TT) : TT.part q (TT.put q' r t) = if q' = q then r else TT.part q t := by
  cases t; cases q <;> cases q' <;> simp [TT.part, TT.put, TT.p0, TT.p1, TT.p2, TT.p3, TT.u0, TT.u1, TT.u2, TT.u3]
theorem RR.get_set (x : V) (t : RowW) (hi lo hi' lo' : D) : Vam.RR.get (Vam.RR.set x t hi lo) hi' lo' = if hi' = hi ∧ lo' = lo then x else Vam.RR.get t hi' lo' := by
  simp only [Vam.RR.get, Vam.RR.set, RowW.get_set]
  by_cases h : hi' = hi
  · subst h; simp only [if_true, RowV.get_set, true_and]
  · simp [h]
theorem TT.get_set (x : V) (t : TT) (i j : Nat) (hi : i < 1024) (hj : j < 1024) : (TT.set x t i).get j = if j = i then x else t.get j := by
  rw [TT.set_eq, TT.get_eq, TT.part_put]
  by_cases hq : Q4.of (i / 256) = Q4.of (j / 256)
  · rw [if_pos hq, RR.get_set]
    by_cases hd : D.of (j / 16 % 16) = D.of (i / 16 % 16) ∧ D.of (j % 16) = D.of (i % 16)
    · rw [if_pos hd, if_pos (slot_inj hj hi ⟨hq.symm, hd⟩)]
    · rw [if_neg hd, if_neg (by rintro rfl; exact hd ⟨rfl, rfl⟩), TT.get_eq, ← hq]
  · rw [if_neg hq, if_neg (by rintro rfl; exact hq rfl), TT.get_eq]

theorem TT.get_leaf (i : Nat) : TT.leaf.get i = undef := by
  rw [TT.get_eq]
  generalize Q4.of (i / 256) = q; generalize D.of (i / 16 % 16) = a; generalize D.of (i % 16) = b
  cases q <;> cases a <;> cases b <;> rfl

theorem vr_undef (φ : Phi) : VR φ undef Go.undef := .tup .nil #[] .nil

theorem TmR.set {φ : Phi} {tm : TT} {tmps : Array Value} (h : TmR φ tm tmps) {d : Nat} {x : V} {v : Value} (hd : d < tmps.size) (hx : VR φ x v) :
    TmR φ (TT.set x tm d) (tmps.setIfInBounds d v) := by
  refine ⟨by simpa using h.1, fun i hi => ?_⟩
  rw [Array.size_setIfInBounds] at hi
  rw [TT.get_set x tm d i (by have := h.1; omega) (by have := h.1; omega)]
  by_cases e : i = d
  · subst e
    simp [hd, hx, Array.getD]
  · rw [if_neg e]
    have := h.2 i hi
    have e2 : (tmps.setIfInBounds d v).getD i Go.undef = tmps.getD i Go.undef := by
      rw [Array.getD_eq_getD_getElem?, Array.getD_eq_getD_getElem?, Array.getElem?_setIfInBounds_ne (by omega)]
    rwa [e2]

/-! ## Heaps -/

/-- a block that may be written to -/
def Wr : Blk → Prop
  | .cells _ _ st _ => st = 0
  | .arg _ => False
  | _ => True

def lenL : V → Nat
  | .cons _ l => lenL l + 1
  | _ => 0

/-- cells that lie in a real block from a place on -/
def CellsAt (φ : Phi) (cs : V) (k : Loc) (arr : Array Value) : Prop :=
  k.o + k.m ≤ arr.size ∧ lenL cs ≤ k.m ∧ ∃ vs, LR φ cs vs ∧ ∀ i v, vs[i]? = some v → arr[k.o + i]? = some v

inductive EntsR (φ : Phi) : List Ent → List MapEntry → Prop where
  | nil : EntsR φ [] []
  | cons (e : Ent) (r : MapEntry) (es : List Ent) (rs : List MapEntry) : VR φ e.key r.key → VR φ e.val r.val → EntsR φ es rs → EntsR φ (e :: es) (r :: rs)

def BlkR (P : Program) (φ : Phi) (x : Blk) (k : Loc) (o : Option Obj) : Prop := match x with
  | .cells cs _ st sh => st = 2 ∨ ((∃ arr el, o = some (.cells arr el (0, 0)) ∧ CellsAt φ cs k arr) ∧ ∀ s ∈ sh, s.wf)
  | .arg cs => ∃ arr el fr, o = some (.cells arr el fr) ∧ CellsAt φ cs k arr
  | .map es _ => ∃ rs c, o = some (.map rs c) ∧ EntsR φ es rs.toList
  | .loop s pe _ tm ps assign body d => ∃ (tmps : Array Value) (kd : Loc) (fn : FuncId), φ d = some kd ∧
      o = some (.loop { state := s, pending := pe, fn, tmps, params := ps.toArray, assign, body, defers := kd.r }) ∧ TmR φ tm tmps ∧
      okCode P tmps.size assign = true ∧ okCode P tmps.size body = true ∧ (∀ t ∈ ps, t < tmps.size) ∧ (∀ c, pe = some c → ∀ n, okCode P n c = true)
  | .dfr taken => o = some (.deferred (if taken then none else some []))

def Dead : Blk → Prop
  | .cells _ _ st _ => st = 2
  | _ => False

/-- an older view of the same memory: it ends no later and is read only -/
def Under (b : Id) (xb : Blk) (l : Loc) (xc : Blk) (k : Loc) : Prop :=
  ∃ cs e sh cs' e' sh', xc = .cells cs e 0 sh ∧ b ∈ sh ∧ xb = .cells cs' e' 1 sh' ∧ l.o + lenL cs' ≤ k.o + lenL cs

def Sep (b : Id) (xb : Blk) (l : Loc) (c : Id) (xc : Blk) (k : Loc) : Prop :=
  Dead xb ∨ Dead xc ∨ (¬ Wr xb ∧ ¬ Wr xc) ∨ Under b xb l xc k ∨ Under c xc k xb l

structure Rel (P : Program) (φ : Phi) (H : CH) (w : World) : Prop where
  nok : H.n.okN
  wf : ∀ b k, φ b = some k → b.wf ∧ Before b H.n ∧ k.r < w.heap.size
  blk : ∀ b k, φ b = some k → ∃ x, H.get b = some x ∧ BlkR P φ x k (w.heap[k.r]?)
  sep : ∀ b c l k x y, φ b = some l → φ c = some k → b ≠ c → l.r = k.r → H.get b = some x → H.get c = some y →
    Sep b x l c y k

/-- a block that evaluation may write to -/
def WrAt (H : CH) (b : Id) : Prop := H.fz ≤ b.num ∧ ∃ x, H.get b = some x ∧ Wr x

/-- an object of which nothing is frozen -/
def PlainObj : Obj → Prop
  | .cells _ _ fr => fr = (0, 0)
  | _ => True

theorem frozen_plain {w : World} {a : Addr} (h : ∀ o, w.heap[a.block]? = some o → PlainObj o) : w.frozen? a = false := by
  unfold World.frozen?
  cases ho : w.heap[a.block]? with
  | none => rfl
  | some o =>
    have hp := h o ho
    cases o with
    | cells c t fr => obtain rfl : fr = (0, 0) := hp; simp
    | _ => rfl

theorem frozen_congr {w w' : World} {a : Addr} (h : w'.heap[a.block]? = w.heap[a.block]?) : w'.frozen? a = w.frozen? a := by
  unfold World.frozen?; rw [h]

theorem frozen_push (w : World) {o : Obj} (ho : PlainObj o) (a : Addr) : ({ w with heap := w.heap.push o } : World).frozen? a = w.frozen? a := by
  by_cases h : a.block = w.heap.size
  · rw [frozen_plain (w := { w with heap := w.heap.push o }), frozen_plain (w := w)]
    · intro o' h'; rw [h] at h'; simp at h'
    · intro o' h'
      have h' : (w.heap.push o)[a.block]? = some o' := h'
      rw [h] at h'; simp at h'; subst h'; exact ho
  · refine frozen_congr ?_
    show (w.heap.push o)[a.block]? = _
    rw [Array.getElem?_push, if_neg h]

theorem frozen_set (w : World) {r : Nat} {o₀ o : Obj} (h0 : w.heap[r]? = some o₀) (p0 : PlainObj o₀) (ho : PlainObj o) (a : Addr) : ({ w with heap := w.heap.setIfInBounds r o } : World).frozen? a = w.frozen? a := by
  by_cases h : a.block = r
  · obtain ⟨hr, _⟩ := Array.getElem?_eq_some_iff.1 h0
    rw [frozen_plain (w := { w with heap := w.heap.setIfInBounds r o }), frozen_plain (w := w)]
    · intro o' h'; rw [h, h0] at h'; cases h'; exact p0
    · intro o' h'
      have h' : (w.heap.setIfInBounds r o)[a.block]? = some o' := h'
      rw [h, Array.getElem?_setIfInBounds, if_pos rfl, if_pos hr] at h'; cases h'; exact ho
  · refine frozen_congr ?_
    show (w.heap.setIfInBounds r o)[a.block]? = _
    exact Array.getElem?_setIfInBounds_ne (Ne.symm h)

structure Ext (φ : Phi) (H : CH) (w : World) (φ' : Phi) (H' : CH) (w' : World) : Prop where
  le : φ.le φ'
  fz : H'.fz = H.fz
  newId : ∀ b k, φ' b = some k → φ b = none → ¬ Before b H.n
  before : ∀ b, Before b H.n → Before b H'.n
  newLoc : ∀ b k, φ' b = some k → φ b = none → w.heap.size ≤ k.r ∨ ∃ c l, φ c = some l ∧ l.r = k.r ∧ WrAt H c
  frame : ∀ r, r < w.heap.size → (∀ b k, φ b = some k → k.r = r → ¬ WrAt H b) → w'.heap[r]? = w.heap[r]?
  ro : ∀ b, Before b H.n → b.wf → ¬ WrAt H b → ¬ WrAt H' b
  keep : ∀ b, Before b H.n → b.wf → b.num < H.fz → H'.get b = H.get b
  size : w.heap.size ≤ w'.heap.size
  os : w'.os = w.os
  tape : w'.tape = w.tape
  output : w'.output = w.output
  fro : ∀ a : Addr, w'.frozen? a = w.frozen? a

theorem Ext.refl (φ : Phi) (H : CH) (w : World) : Ext φ H w φ H w where
  le := Phi.le_refl φ
  fz := rfl
  newId := fun b k h1 h2 => by rw [h2] at h1; cases h1
  before := fun _ h => h
  newLoc := fun b k h1 h2 => by rw [h2] at h1; cases h1
  frame := fun _ _ _ => rfl
  ro := fun _ _ _ h => h
  keep := fun _ _ _ _ => rfl
  size := Nat.le_refl _
  os := rfl
  tape := rfl
  output := rfl
  fro := fun _ => rfl

theorem Ext.trans {P : Program} {φ φ₁ φ₂ : Phi} {H H₁ H₂ : CH} {w w₁ w₂ : World} (h₀ : Rel P φ H w) (h : Ext φ H w φ₁ H₁ w₁) (k : Ext φ₁ H₁ w₁ φ₂ H₂ w₂) : Ext φ H w φ₂ H₂ w₂ where
  le := Phi.le_trans h.le k.le
  fz := k.fz.trans h.fz
  newId := fun b l h1 h2 hb => by
    cases h3 : φ₁ b with
    | none => exact k.newId b l h1 h3 (h.before b hb)
    | some l' => exact h.newId b l' h3 h2 hb
  before := fun b hb => k.before b (h.before b hb)
  newLoc := fun b l h1 h2 => by
    cases h3 : φ₁ b with
    | some l' =>
      have : l' = l := by have := k.le b l' h3; rw [h1] at this; exact (Option.some.inj this).symm
      subst this
      exact h.newLoc b l' h3 h2
    | none =>
      rcases k.newLoc b l h1 h3 with hl | ⟨c, m, hc, hm, hw⟩
      · exact .inl (Nat.le_trans h.size hl)
      · cases h4 : φ c with
        | some m' =>
          have : m' = m := by have := h.le c m' h4; rw [hc] at this; exact (Option.some.inj this).symm
          subst this
          by_cases hw0 : WrAt H c
          · exact .inr ⟨c, m', h4, hm, hw0⟩
          · exact absurd hw (h.ro c (h₀.wf c m' h4).2.1 (h₀.wf c m' h4).1 hw0)
        | none =>
          rcases h.newLoc c m hc h4 with h5 | ⟨c', m', h5, h6, h7⟩
          · exact .inl (hm ▸ h5)
          · exact .inr ⟨c', m', h5, h6.trans hm, h7⟩
  frame := fun r hr hall => by
    rw [k.frame r (Nat.lt_of_lt_of_le hr h.size) ?_, h.frame r hr hall]
    intro b l hb hl hw
    cases h3 : φ b with
    | some l' =>
      have : l' = l := by have := h.le b l' h3; rw [hb] at this; exact (Option.some.inj this).symm
      subst this
      exact h.ro b (h₀.wf b l' h3).2.1 (h₀.wf b l' h3).1 (hall b l' h3 hl) hw
    | none =>
      rcases h.newLoc b l hb h3 with h5 | ⟨c', m', h5, h6, h7⟩
      · omega
      · exact hall c' m' h5 (h6.trans hl) h7
  ro := fun b hb hbw hw => k.ro b (h.before b hb) hbw (h.ro b hb hbw hw)
  keep := fun b hb hbw hf => by rw [k.keep b (h.before b hb) hbw (by rw [h.fz]; exact hf), h.keep b hb hbw hf]
  size := Nat.le_trans h.size k.size
  os := k.os.trans h.os
  tape := k.tape.trans h.tape
  output := k.output.trans h.output
  fro := fun a => (k.fro a).trans (h.fro a)

theorem CellsAt.mono {φ ψ : Phi} (hle : φ.le ψ) {cs : V} {k : Loc} {arr : Array Value} (h : CellsAt φ cs k arr) : CellsAt ψ cs k arr := by
  obtain ⟨h1, h2, vs, h3, h4⟩ := h
  exact ⟨h1, h2, vs, h3.mono hle, h4⟩
theorem EntsR.mono {φ ψ : Phi} (hle : φ.le ψ) {es : List Ent} {rs : List MapEntry} (h : EntsR φ es rs) : EntsR ψ es rs := by
  induction h with
  | nil => exact .nil
  | cons e r es rs h1 h2 _ ih => exact .cons e r es rs (h1.mono hle) (h2.mono hle) ih
theorem BlkR.mono {P : Program} {φ ψ : Phi} (hle : φ.le ψ) {x : Blk} {k : Loc} {o : Option Obj} (h : BlkR P φ x k o) : BlkR P ψ x k o := by
  cases x with
  | cells cs e st sh =>
    rcases h with h | ⟨⟨arr, el, h1, h2⟩, h3⟩
    · exact .inl h
    · exact .inr ⟨⟨arr, el, h1, h2.mono hle⟩, h3⟩
  | arg cs => obtain ⟨arr, el, fr, h1, h2⟩ := h; exact ⟨arr, el, fr, h1, h2.mono hle⟩
  | map es c => obtain ⟨rs, c, h1, h2⟩ := h; exact ⟨rs, c, h1, h2.mono hle⟩
  | loop s pe fn tm ps assign body d =>
    obtain ⟨tmps, kd, fn', h1, h2, h3, h4⟩ := h
    exact ⟨tmps, kd, fn', hle _ _ h1, h2, h3.mono hle, h4⟩
  | dfr t => exact h
end Vam
