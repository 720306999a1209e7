/- The plain machine (VamApp2): part of a proof by a machine of plain values that is proved right. -/
import Derived.Test.YtnkmhgojbinhkabVamApp
import Derived.Laws.AppendOwn
namespace Vam
set_option linter.unusedVariables false
set_option linter.unusedSimpArgs false
open Go
variable {P : Program} {φ : Phi} {H H' : CH} {w : World} {v : V}

theorem onCells_ok {α : Type} {no r : α} {f : V → TypeId → Nat → List Id → α} {b : Option Blk} (h : onCells no f b = r) (hr : r ≠ no) :
    (∃ cs e st sh, b = some (.cells cs e st sh) ∧ st ≠ 2 ∧ f cs e st sh = r) ∨ (∃ cs, b = some (.arg cs) ∧ f cs 0 1 [] = r) := by
  cases b with
  | none => exact absurd h.symm hr
  | some x =>
    cases x with
    | cells cs e st sh =>
      left
      change cond (Nat.beq st 2) no (f cs e st sh) = r at h
      obtain ⟨h1, h2⟩ := cond_ok' h hr
      exact ⟨cs, e, st, sh, rfl, by rintro rfl; exact absurd h1 (by decide), h2⟩
    | arg cs => exact .inr ⟨cs, rfl, h⟩
    | _ => exact absurd h.symm hr

theorem strCells_rel : ∀ (l : List UInt8), LR φ (strCells (l.map (·.toNat))) (l.map fun b => Value.int .u8 b.toNat) := by
  intro l
  induction l with
  | nil => exact .nil
  | cons x l ih => exact .cons _ _ _ _ (.int _ _) ih

/-- what is appended -/
theorem firstCells_rel (h : Rel P φ H w) {x : V} {xv : Value} {size n : Nat} {new : V} (hx : VR φ x xv) (hl : lenOf x = some n) (hr : firstCells H size n x = some new) :
    ∃ nv : Array Value, (∀ w', (Builtin.lenOf xv).run P w' = .ok n w') ∧ (∀ w' : World, w'.heap = w.heap → (Builtin.firstCells size n xv).run P w' = .ok nv w') ∧ LR φ new nv.toList ∧ nv.size = n * size := by
  cases x with
  | str s =>
    cases hx with
    | str b =>
      cases (show some (bytesOf b).length = some n from hl)
      obtain ⟨hb1, hr⟩ := cond_ok (show cond (Nat.beq size 1) (some (strCells ((bytesOf b).take (bytesOf b).length))) none = some new from hr) (by simp)
      obtain rfl := beq_eq hb1
      cases hr
      have hlen : (bytesOf b).length = b.size := by unfold bytesOf; rw [List.length_map, Array.length_toList]; rfl
      refine ⟨b.data.map fun c => .int .u8 c.toNat, fun w' => by simp [Builtin.lenOf, hlen], fun w' _ => ?_, ?_, by rw [Array.size_map, hlen, Nat.mul_one]; rfl⟩
      · rw [hlen]
        have : b.extract 0 b.size = b := by
          apply ByteArray.ext
          rw [ByteArray.data_extract, show b.size = b.data.size from rfl, Array.extract_size]
        simp [Builtin.firstCells, this]
      · rw [List.take_length]
        have := strCells_rel (φ := φ) b.data.toList
        simpa [bytesOf] using this
  | slice b off len cc sz =>
    cases hx with
    | slice _ _ _ _ _ cap k hk hc =>
      cases (show some len = some n from hl)
      obtain ⟨vs, g1, g2, g3⟩ := readCells_rel h hk (show readCells H b off (Nat.mul n size) = some new from hr)
      refine ⟨vs.toArray, fun w' => by simp [Builtin.lenOf], fun w' hw => ?_, by simpa using g2, by simpa using g1⟩
      refine run_firstCells_some w' size n _ n cap vs g1 (fun j v hj => ?_)
      rw [addr_add]
      have := g3 j v hj
      simpa [World.cell?, hw] using this
  | nils =>
    cases hx
    cases (show some 0 = some n from hl)
    cases (show natC (some .nil) (fun _ => none) 0 = some new from hr)
    exact ⟨#[], fun w' => by simp [Builtin.lenOf], fun w' _ => by simp [Builtin.firstCells], .nil, by simp⟩
  | _ => cases hl

/-- A NEW ROW, of a size that was drawn. -/
theorem fresh_rel (h : Rel P φ H w) (hn : H.n.wf) {cells : V} {e' : TypeId} {sh : List Id} (hsh : ∀ s ∈ sh, s.wf) {arr rest : Array Value} (hl : LR φ cells arr.toList) {need size cap : Nat}
    (h0 : arr.size = need * size) (hrest : rest.size = (cap - need) * size) (hcap : need ≤ cap) (el : TypeId)
    (e1 : H'.n = H.n.next) (e2 : H'.fz = H.fz) (e3 : ∀ j : Id, j.wf → H'.get j = if j = H.n then some (.cells cells e' 0 sh) else H.get j) :
    ∃ φ', Rel P φ' H' (w.drew.alloc (.cells (arr ++ rest) el)) ∧ Ext φ H w φ' H' (w.drew.alloc (.cells (arr ++ rest) el)) ∧
      VR φ' (.slice H.n 0 need (capA need) size) (.slice (some ⟨w.heap.size, 0, none⟩) need cap) := by
  have hd : Rel P φ H w.drew := ⟨h.nok, h.wf, h.blk, h.sep⟩
  have hnone := h.none_at_n hn
  have hle := Phi.le_with (⟨w.heap.size, 0, cap * size⟩ : Loc) hnone
  have hcs : cap * size = need * size + (cap - need) * size := by rw [← Nat.add_mul]; congr 1; omega
  have hlen := LR.len hl
  obtain ⟨r1, r2⟩ := Rel.alloc (o := .cells (arr ++ rest) el) (m := cap * size) hd hn e1 e2 e3 (by
    refine .inr ⟨⟨_, el, rfl, ?_, ?_, arr.toList, hl.mono hle, ?_⟩, hsh⟩
    · show 0 + cap * size ≤ (arr ++ rest).size
      simp; omega
    · show lenL cells ≤ cap * size
      rw [hlen]; simp; omega
    · intro i u hi
      show (arr ++ rest)[0 + i]? = some u
      have hi' : arr[i]? = some u := by simpa using hi
      obtain ⟨h3, _⟩ := Array.getElem?_eq_some_iff.1 hi'
      rw [Nat.zero_add, Array.getElem?_append_left h3]; exact hi')
  refine ⟨_, r1, ?_, ?_⟩
  · exact { r2 with }
  · have hc : CapOk ⟨w.heap.size, 0, cap * size⟩ 0 need (capA need) size cap := by
      have e5 : capN (capA need) = need := by
        show (2 * need) / 2 = need; omega
      have e6 : capE (capA need) = false := by
        show Nat.beq ((2 * need) % 2) 1 = false
        rw [Nat.mul_mod_right]; rfl
      refine ⟨by rw [e5]; exact Nat.le_refl _, fun he => (by rw [e6] at he; cases he), fun _ => ⟨by rw [e5]; exact hcap, by show 0 + cap * size ≤ cap * size; omega⟩⟩
    exact .slice H.n 0 need (capA need) size cap _ (Phi.with_self φ H.n _) hc


theorem fits {need old n bytes cells : Nat} (hb : need * (bytes + cells) ≤ 16777216) (hg : old < need) (hn : n = need) (hc : 0 < cells) :
    ((need : Nat) : Int) ≤ 9223372036854775807 ∧ Builtin.nextslicecap need old * bytes ≤ 281474976710656 := by
  have h1 : need * 1 ≤ need * (bytes + cells) := Nat.mul_le_mul_left need (by omega)
  have h2 : need * bytes ≤ need * (bytes + cells) := Nat.mul_le_mul_left need (by omega)
  exact ⟨by omega, growslice_fits hg (by omega)⟩

theorem zeroL_info {t : TypeId} {z : V} (h : zeroL P t = some z) {i : TypeInfo} (hi : P.info? t = some i) : ∃ zv, i.zero = some zv ∧ ∀ φ : Phi, LR φ z zv.cells.toList := by
  unfold zeroL at h
  rw [hi] at h
  split at h
  · rename_i i' hi'
    cases hi'
    split at h
    · rename_i zv hz
      split at h
      · rename_i x hx
        cases h
        exact ⟨zv, hz, fun φ => cells_rel (ofValO_rel hx)⟩
      · cases h
    · cases h
  · rename_i h1; cases h1

theorem sim_append (h : Rel P φ H w) {ts : Array TypeId} {ty : TypeId} {cn : Array Bool} {s x : V} {args : Array Value} {sv xv : Value} (a0 : args[0]? = some sv) (a1 : args[1]? = some xv)
    (hs : VR φ s sv) (hx : VR φ x xv) (hr0 : appendT P ts.toList H s x = .ok v H') : Sim P φ H w (builtin .append ts ty cn args) v H' := by
  obtain ⟨t, t2, elem, hts, ht, hel, hu, hr⟩ : ∃ t t2 elem, ts.toList = [t, t2] ∧ P.underlying t = some (.slice elem) ∧ sized P elem = true ∧
      ((∃ e2, P.underlying t2 = some (.slice e2)) ∨ P.underlying t2 = some .string) ∧ appendV P elem H s x = .ok v H' := by
    unfold appendT at hr0
    split at hr0
    · rename_i t t2 hts
      split at hr0
      · rename_i e2 elem h1 h2
        exact ⟨t, t2, elem, hts, (tyOf_slice h2).1, (tyOf_slice h2).2, .inl ⟨_, (tyOf_slice h1).1⟩, hr0⟩
      · rename_i elem h1 h2
        exact ⟨t, t2, elem, hts, (tyOf_slice h2).1, (tyOf_slice h2).2, .inr (tyOf_string h1), hr0⟩
      · cases hr0
    · cases hr0
  obtain rfl : ts = #[t, t2] := Array.ext' (by rw [hts])
  obtain ⟨⟨i, hi⟩, _⟩ := sized_iff hel
  have hsz : (Go.sizeOf elem).run P w = Result.ok (P.cellsOf elem) w := sizeOf_run ⟨i, hi⟩ w
  have his : i.size = P.cellsOf elem := by simp [Program.cellsOf, hi]
  have hib : i.bytes = P.bytesOf elem := by simp [Program.bytesOf, hi]
  have wrap : ∀ {u : Value} {w' : World} {φ' : Phi}, (Builtin.append_ #[t, t2] ty args).run P w = .ok u w' → Rel P φ' H' w' → Ext φ H w φ' H' w' → VR φ' v u → Sim P φ H w (builtin .append #[t, t2] ty cn args) v H' := by
    intro u w' φ' h1 h2 h3 h4
    exact ⟨φ', w', u, .inl (by simp [builtin, h1]), h2, h3, h4⟩
  clear hr0 hts
  unfold appendV at hr
  obtain ⟨n, hl, hr⟩ := opt_ok hr R.ok_ne
  obtain ⟨hb, hr⟩ := cond_ok hr R.ok_ne
  have hb := Nat.le_of_ble_eq_true hb
  generalize hc : P.cellsOf elem = size at *
  obtain ⟨s1, hs1, hr⟩ : ∃ s1, size = Nat.succ s1 ∧ opt .no (fun new => onSlice .no (appendS P H elem (Nat.succ s1) n new) (appendNil P H elem (Nat.succ s1) n new) s) (firstCells H (Nat.succ s1) n x) = .ok v H' := by
    cases size with
    | zero => cases hr
    | succ s1 => exact ⟨s1, rfl, hr⟩
  have hpos : 0 < size := by rw [hs1]; exact Nat.succ_pos s1
  rw [← hs1] at hr
  clear hs1
  · obtain ⟨new, hf, hr⟩ := opt_ok hr R.ok_ne
    obtain ⟨nv, f1, f2, f3, f4⟩ := firstCells_rel h hx hl hf
    have fresh : ∀ {H₁ : CH} {base : Option Addr} {sLen sCap : Nat} {old : Array Value} {cells z : V} {e' : TypeId} {sh : List Id}, Rel P φ H₁ w → Ext φ H w φ H₁ w → args[0]? = some (.slice base sLen sCap) →
        (Builtin.firstCells size sLen (.slice base sLen sCap)).run P w.drew = .ok old w.drew → ¬ (sLen + n ≤ sCap) → (sLen + n) * (P.bytesOf elem + size) ≤ 16777216 → zeroL P elem = some z → lenV z 0 = size →
        LR φ cells (old.toList ++ nv.toList) → old.size = sLen * size → (∀ s ∈ sh, s.wf) →
        alloc R.no H₁ (.cells cells e' 0 sh) (fun m H => R.ok (.slice m 0 (sLen + n) (capA (sLen + n)) size) H) = .ok v H' → Sim P φ H w (builtin .append #[t, t2] ty cn args) v H' := by
      intro H₁ base sLen sCap old cells z e' sh q1 q2 q3 q4 q5 q6 q7 q8 q9 q10 q11 q12
      obtain ⟨zv, z1, z2⟩ := zeroL_info q7 hi
      have z3 : zv.cells.size = size := by
        rw [lenV_eq, LR.len (z2 φ)] at q8; simpa using q8
      obtain ⟨h63, hfit⟩ := fits (n := sLen + n) q6 (Nat.lt_of_not_le q5) rfl hpos
      have hrun := run_append_fresh (w := w) (ty := ty) ht hu hi z1 (f1 w) (by rw [his]; exact q4) (by rw [his]; exact f2 w.drew rfl) q5 h63 (by rw [hib]; exact hfit) q3 a1
      obtain ⟨H₂, e1, e2, e3, e4, e5⟩ := alloc_eq q12 R.ok_ne q1.nok
      cases e1
      obtain ⟨φ', r1, r2, r3⟩ := fresh_rel (arr := old ++ nv) (rest := Builtin.zeroCells zv.cells (grownCap w (sLen + n) sCap elem - (sLen + n))) (need := sLen + n) (size := size) (cap := grownCap w (sLen + n) sCap elem)
        q1 e2 q11 (by simpa using q9) (by simp [q10, f4, Nat.add_mul]) (by rw [size_zeroCells, z3]) (need_le_grownCap _ _ _ _) elem e3 e4 e5
      rw [Array.append_assoc] at r1 r2
      exact wrap hrun r1 (q2.trans h r2) r3
    rcases onSlice_ok hr R.ok_ne with ⟨b, off, len, cc, sz, rfl, hr⟩ | ⟨rfl, hr⟩
    · cases hs with
      | slice _ _ _ _ _ cap k hk hcap =>
        have hb : (len + n) * (P.bytesOf elem + size) ≤ 16777216 := hb
        obtain ⟨hsz', hr⟩ := cond_ok (show cond (Nat.beq sz size) _ R.no = .ok v H' from hr) R.ok_ne
        obtain rfl := beq_eq hsz'
        obtain ⟨hcap1, hcap2, hcap3⟩ := hcap
        cases hble : Nat.ble (Nat.add len n) (capN cc) with
        | true =>
          rw [hble] at hr
          have hr : appendIn H sz (Nat.add len n) new b off len cc = .ok v H' := hr
          have hle : len + n ≤ capN cc := Nat.le_of_ble_eq_true hble
          have hlecap : len + n ≤ cap := by
            cases he : capE cc with
            | true => rw [hcap2 he]; exact hle
            | false => exact Nat.le_trans hle (hcap3 he).1
          have hvr : ∀ {φ' : Phi}, φ' b = some k → VR φ' (.slice b off (len + n) cc sz) (.slice (some ⟨k.r, k.o + off, none⟩) (len + n) cap) := fun hk' => .slice _ _ _ _ _ _ _ hk' ⟨hle, hcap2, hcap3⟩
          unfold appendIn at hr
          cases new with
          | nil =>
            cases (show R.ok (.slice b off (len + n) cc sz) H = .ok v H' from hr)
            have : nv.toList = [] := LR.inv_nil f3
            exact wrap (w' := w) (run_append_in ht hu hsz (f1 w) (f2 w rfl) hlecap a0 a1 (by rw [this]; simp [storeCells])) h (.refl _ _ _) (hvr hk)
          | cons y l =>
            obtain ⟨H₁, g1, g2⟩ := opt_ok (show opt R.no (fun H' => R.ok (.slice b off (len + n) cc sz) H') (writeCells H b (Nat.add off (Nat.mul len sz)) (.cons y l)) = R.ok v H' from hr) R.ok_ne
            cases g2
            obtain ⟨arr, el, g3, g4, g5, g6, g7⟩ := Rel.write h hk f3 g1
            have hst := run_storeCells (P := P) ((⟨k.r, k.o + off, none⟩ : Addr).add (len * sz)) k.r (k.o + (off + len * sz)) el nv.toList 0 w arr (by
              intro j; rw [addr_add, addr_add]; simp [Nat.add_assoc]) g3 g5 (by simpa [Nat.add_assoc] using g4)
            exact wrap (run_append_in ht hu hsz (f1 w) (f2 w rfl) hlecap a0 a1 hst) g6 g7 (hvr hk)
          | _ => cases hr
        | false =>
          rw [hble] at hr
          have hr : appendNew P H elem sz (Nat.add len n) new b off len cc = .ok v H' := hr
          have hnle : ¬ len + n ≤ capN cc := fun hc => by
            have := Nat.ble_eq_true_of_le hc
            rw [show Nat.ble (len + n) (capN cc) = false from hble] at this; cases this
          unfold appendNew at hr
          obtain ⟨z, hz, hr⟩ := opt_ok hr R.ok_ne
          obtain ⟨hb1, hr⟩ := cond_ok hr R.ok_ne
          obtain ⟨hb2, hr⟩ := cond_ok hr R.ok_ne
          cases he : capE cc with
          | true =>
            rw [he] at hr
            obtain ⟨old, ho, hr⟩ := opt_ok (show opt R.no (fun old => freshSl H elem sz (len + n) (appV old new)) (readCells H b off (Nat.mul len sz)) = R.ok v H' from hr) R.ok_ne
            obtain ⟨vs, g1, g2, g3⟩ := readCells_rel h hk ho
            exact fresh h (.refl _ _ _) a0 (old := vs.toArray) (run_firstCells_some w.drew sz len _ len cap vs g1 (fun j u hj => by rw [addr_add]; exact g3 j u hj)) (by rw [hcap2 he]; exact hnle) hb hz (beq_eq hb1)
              (LR.app (by simpa using g2) f3) (by simpa using g1) (sh := []) (by simp) hr
          | false =>
            rw [he] at hr
            obtain ⟨hcn, hcm⟩ := hcap3 he
            rcases onCells_ok (show onCells R.no (appendOn H b off (Nat.mul len sz) sz (len + n) new) (H.get b) = R.ok v H' from hr) R.ok_ne with ⟨cs, e, st, sh, g1, _, hr⟩ | ⟨cs, _, hr⟩
            · obtain ⟨h0, hr1⟩ := cond_ok hr R.ok_ne
              clear hr
              obtain rfl := beq_eq h0
              obtain ⟨h2, hr⟩ := cond_ok hr1 R.ok_ne
              have h2 : lenL cs = off + len * sz := by have := beq_eq h2; rw [lenV_eq] at this; simpa using this
              obtain ⟨H₁, hset, hr⟩ := opt_ok hr R.ok_ne
              obtain ⟨r1, r2⟩ := h.lock hk g1 hset
              by_cases hin : len + n ≤ cap
              · obtain ⟨H₂, e1, e2, e3, e4, e5⟩ := alloc_eq hr R.ok_ne r1.nok
                cases e1
                have hy : nv.toList.length = n * sz := by simpa using f4
                have hmul : (len + n) * sz ≤ cap * sz := Nat.mul_le_mul_right sz hin
                have hmul2 : (len + n) * sz = len * sz + n * sz := Nat.add_mul _ _ _
                obtain ⟨arr, el, g3, g4, g5, g6⟩ := Rel.grow (off := off) h hk g1 hset e2 f3 (by omega) (by rw [hy]; omega) e3 e4 e5
                have hst := run_storeCells (P := P) ((⟨k.r, k.o + off, none⟩ : Addr).add (len * sz)) k.r (k.o + lenL cs) el nv.toList 0 w arr (by
                  intro j; rw [addr_add, addr_add, h2]; simp [Nat.add_assoc]) g3 (allOne_rel f3 hb2) (by simpa using g4)
                refine wrap (run_append_in ht hu hsz (f1 w) (f2 w rfl) hin a0 a1 hst) g5 g6 ?_
                have e7 : capN (capA (len + n)) = len + n := by
                  show (2 * (len + n)) / 2 = len + n; omega
                have e8 : capE (capA (len + n)) = false := by
                  show Nat.beq ((2 * (len + n)) % 2) 1 = false
                  rw [Nat.mul_mod_right]; rfl
                have hco : CapOk ⟨k.r, k.o + off, k.m - off⟩ 0 (len + n) (capA (len + n)) sz cap :=
                  ⟨by rw [e7]; exact Nat.le_refl _, fun he => (by rw [e8] at he; cases he), fun _ => ⟨by rw [e7]; exact hin, by show 0 + cap * sz ≤ k.m - off; omega⟩⟩
                exact .slice H₁.n 0 (len + n) (capA (len + n)) sz cap ⟨k.r, k.o + off, k.m - off⟩ (Phi.with_self φ H₁.n _) hco
              · obtain ⟨x0, hx0, hbl⟩ := h.blk b k hk
                rw [g1] at hx0; cases hx0
                rcases hbl with hbl | ⟨⟨arr, el, b1, b2, b3, us, b4, b5⟩, b6⟩
                · cases hbl
                have hlu := LR.len b4
                refine fresh r1 r2 a0 (old := (us.drop off).toArray) (run_firstCells_some w.drew sz len _ len cap (us.drop off) (by rw [List.length_drop]; omega) (fun j u hj => ?_)) hin hb hz (beq_eq hb1)
                  (LR.app (by simpa using b4.drop off) f3) (by simp; omega) (sh := b :: sh) ?_ hr
                · rw [addr_add]
                  rw [List.getElem?_drop] at hj
                  have := b5 _ _ hj
                  show w.cell? _ = _
                  rw [cell?_eq b1, Nat.add_assoc]; exact this
                · intro s hs
                  rcases List.mem_cons.1 hs with rfl | hs
                  · exact (h.wf _ _ hk).1
                  · exact b6 s hs
            · obtain ⟨h0, hr⟩ := cond_ok hr R.ok_ne
              cases h0
    · cases hs
      have hb : (0 + n) * (P.bytesOf elem + size) ≤ 16777216 := hb
      cases n with
      | zero =>
        cases (show R.ok .nils H = .ok v H' from hr)
        exact wrap (run_append_nilin ht hu hsz (f1 w) (f2 w rfl) a0 a1) h (.refl _ _ _) .nils
      | succ n =>
        obtain ⟨z, hz, hr⟩ := opt_ok (show opt R.no (fun z => cond (Nat.beq (lenV z 0) size) (cond (allOne new) (freshSl H elem size (n + 1) new) R.no) R.no) (zeroL P elem) = R.ok v H' from hr) R.ok_ne
        obtain ⟨hb1, hr⟩ := cond_ok hr R.ok_ne
        obtain ⟨hb2, hr⟩ := cond_ok hr R.ok_ne
        rw [← Nat.zero_add (n + 1)] at hr
        exact fresh h (.refl _ _ _) a0 (old := #[]) (by simp [Builtin.firstCells]) (by omega) hb hz (beq_eq hb1) (by simpa using f3) (by simp) (sh := []) (by simp) hr

end Vam
