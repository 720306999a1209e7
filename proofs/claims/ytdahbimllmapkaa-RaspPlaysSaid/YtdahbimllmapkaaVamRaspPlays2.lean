/- rasp's functions and the law's, by the logic of trees: what each gives back for all that it may be given. -/
import Derived.Test.YtdahbimllmapkaaVamRaspPlays1
namespace Go.Proofs.Ytdahbimllmapkaa.raspPlays
open Vam
set_option linter.unusedVariables false
set_option linter.unusedSimpArgs false
set_option linter.constructorNameAsVariable false
variable {is : FuncId → Bool} {orc : Known}
theorem und_struct {P : Program} {t : TypeId} (n : Nat) (h : (match P.underlying t with | some (.struct fs) => Nat.beq fs.size n | _ => false) = true) : ∃ fs, P.underlying t = some (.struct fs) := by
  cases hu : P.underlying t with
  | none => rw [hu] at h; cases h
  | some ty => rw [hu] at h; cases ty <;> first | exact ⟨_, rfl⟩ | cases h
theorem u38 : Try.prog.underlying 38 = some (.slice 3) := by kernel_rfl
theorem u3 : Try.prog.underlying 3 = some (.int .i64) := by kernel_rfl
theorem u22 : Try.prog.underlying 22 = some (.slice 52) := by kernel_rfl
theorem u25 : Try.prog.underlying 25 = some (.slice 64) := by kernel_rfl
def fts (P : Program) (t : TypeId) : List TypeId := match P.underlying t with | some (.struct fs) => fs.toList.map (·.type) | _ => []
theorem f27 : fts Try.prog 27 = [22, 24, 25] := by kernel_rfl
theorem f24 : fts Try.prog 24 = [3, 3] := by kernel_rfl
theorem f52 : fts Try.prog 52 = [24, 3] := by kernel_rfl
theorem f64 : fts Try.prog 64 = [24, 3] := by kernel_rfl
theorem shp_int {cs : List U} (h : Shp Try.prog 3 cs) : ∃ n : Int, cs = [.int .i64 n] := by
  cases h with
  | int _ k n hu _ => rw [u3] at hu; cases hu; exact ⟨n, rfl⟩
  | bool _ _ hu => rw [u3] at hu; cases hu
  | str _ _ hu => rw [u3] at hu; cases hu
  | slice _ _ _ hu => rw [u3] at hu; cases hu
  | struct _ _ _ hu => rw [u3] at hu; cases hu
  | array _ _ _ _ hu => rw [u3] at hu; cases hu
theorem shp_fields {P : Program} {t : TypeId} {cs : List U} (h : Shp P t cs) (hne : fts P t ≠ []) : ∃ fs : List Field, fs.map (·.type) = fts P t ∧ ShpF P fs cs := by
  have no : ∀ {ty}, P.underlying t = some ty → (∀ fs, ty ≠ .struct fs) → False := fun hu hn => hne (by unfold fts; rw [hu]; split <;> simp_all)
  cases h with
  | struct _ fs _ hu hf => exact ⟨fs.toList, by unfold fts; rw [hu], hf⟩
  | int _ k n hu _ => exact (no hu (by intro fs h; cases h)).elim
  | bool _ _ hu => exact (no hu (by intro fs h; cases h)).elim
  | str _ _ hu => exact (no hu (by intro fs h; cases h)).elim
  | slice _ _ _ hu => exact (no hu (by intro fs h; cases h)).elim
  | array _ _ _ _ hu => exact (no hu (by intro fs h; cases h)).elim
theorem shpF_cons {P : Program} {fs : List Field} {t : TypeId} {ts : List TypeId} {cs : List U} (h : ShpF P fs cs) (e : fs.map (·.type) = t :: ts) : ∃ gs xs ys, cs = xs ++ ys ∧ Shp P t xs ∧ ShpF P gs ys ∧ gs.map (·.type) = ts := by
  cases h with
  | nil => cases e
  | cons f fs xs ys h1 h2 =>
    simp only [List.map_cons, List.cons.injEq] at e
    obtain ⟨rfl, rfl⟩ := e
    exact ⟨fs, xs, ys, rfl, h1, h2, rfl⟩
theorem shpF_nil {P : Program} {fs : List Field} {cs : List U} (h : ShpF P fs cs) (e : fs.map (·.type) = []) : cs = [] := by
  cases h with
  | nil => rfl
  | cons => cases e
theorem shp_span {cs : List U} (h : Shp Try.prog 24 cs) : ∃ a b : Int, cs = [.int .i64 a, .int .i64 b] := by
  obtain ⟨fs, e, hf⟩ := shp_fields h (by rw [f24]; simp)
  rw [f24] at e
  obtain ⟨g1, a1, b1, rfl, k1, r1, e1⟩ := shpF_cons hf e
  obtain ⟨g2, a2, b2, rfl, k2, r2, e2⟩ := shpF_cons r1 e1
  obtain rfl := shpF_nil r2 e2
  obtain ⟨x, rfl⟩ := shp_int k1
  obtain ⟨y, rfl⟩ := shp_int k2
  exact ⟨x, y, rfl⟩
theorem shp_tri {t : TypeId} (hft : fts Try.prog t = [24, 3]) {cs : List U} (h : Shp Try.prog t cs) : ∃ q : Tri, cs = [.int .i64 q.a, .int .i64 q.b, .int .i64 q.c] := by
  obtain ⟨fs, e, hf⟩ := shp_fields h (by rw [hft]; simp)
  rw [hft] at e
  obtain ⟨g1, a1, b1, rfl, k1, r1, e1⟩ := shpF_cons hf e
  obtain ⟨g2, a2, b2, rfl, k2, r2, e2⟩ := shpF_cons r1 e1
  obtain rfl := shpF_nil r2 e2
  obtain ⟨x, y, rfl⟩ := shp_span k1
  obtain ⟨z, rfl⟩ := shp_int k2
  exact ⟨⟨x, y, z⟩, rfl⟩
theorem shpL_map {P : Program} {e : TypeId} {α : Type} {f : α → List U} {css : List (List U)} (h : ShpL P e css) (k : ∀ cs, Shp P e cs → ∃ q, cs = f q) : ∃ l : List α, css = l.map f := by
  induction css with
  | nil => exact ⟨[], rfl⟩
  | cons cs css ih =>
    cases h with
    | cons _ _ _ h1 h2 =>
      obtain ⟨q, rfl⟩ := k _ h1
      obtain ⟨l, rfl⟩ := ih h2
      exact ⟨q :: l, rfl⟩
theorem shp_slice {P : Program} {t e : TypeId} {cs : List U} (hu : P.underlying t = some (.slice e)) (h : Shp P t cs) : ∃ css, ShpL P e css ∧ cs = [.lst .ro (P.cellsOf e) (css.map (eU P e))] := by
  cases h with
  | slice _ e' css hu' hl => rw [hu] at hu'; cases hu'; exact ⟨css, hl, rfl⟩
  | int _ k n hu' _ => rw [hu] at hu'; cases hu'
  | bool _ _ hu' => rw [hu] at hu'; cases hu'
  | str _ _ hu' => rw [hu] at hu'; cases hu'
  | struct _ _ _ hu' => rw [hu] at hu'; cases hu'
  | array _ _ _ _ hu' => rw [hu] at hu'; cases hu'
theorem eu52 : ∀ cs, eU Try.prog 52 cs = .agg cs := by
  obtain ⟨fs, h⟩ := und_struct (P := Try.prog) (t := 52) 2 (by kernel_rfl)
  intro cs; unfold eU; rw [h]
theorem eu64 : ∀ cs, eU Try.prog 64 cs = .agg cs := by
  obtain ⟨fs, h⟩ := und_struct (P := Try.prog) (t := 64) 2 (by kernel_rfl)
  intro cs; unfold eU; rw [h]
theorem eu3 : ∀ cs, eU Try.prog 3 cs = cs.headD .junk := by
  intro cs; unfold eU; rw [u3]
theorem map_tris {F : List U → U} (he : ∀ cs, F cs = .agg cs) (l : List Tri) : (l.map fun q : Tri => [U.int .i64 q.a, .int .i64 q.b, .int .i64 q.c]).map F = trisU l := by
  rw [List.map_map]
  exact List.map_congr_left fun q _ => he _
theorem map_ints {F : List U → U} (he : ∀ cs, F cs = cs.headD .junk) (l : List Int) : (l.map fun n : Int => [U.int .i64 n]).map F = intsU l := by
  rw [List.map_map]
  exact List.map_congr_left fun q _ => he _
theorem shp_tris {t e : TypeId} (hu : Try.prog.underlying t = some (.slice e)) (hc : Program.cellsOf Try.prog e = 3) (hft : fts Try.prog e = [24, 3]) (he : ∀ cs, eU Try.prog e cs = .agg cs) {cs : List U} (h : Shp Try.prog t cs) : ∃ l : List Tri, cs = [.lst .ro 3 (trisU l)] := by
  obtain ⟨css, hl, rfl⟩ := shp_slice hu h
  obtain ⟨l, rfl⟩ := shpL_map (f := fun q : Tri => [.int .i64 q.a, .int .i64 q.b, .int .i64 q.c]) hl fun cs hcs => shp_tri hft hcs
  refine ⟨l, ?_⟩
  rw [hc, map_tris he]
theorem shp_ints {cs : List U} (h : Shp Try.prog 38 cs) : ∃ l : List Int, cs = [.lst .ro 1 (intsU l)] := by
  obtain ⟨css, hl, rfl⟩ := shp_slice u38 h
  obtain ⟨l, rfl⟩ := shpL_map (f := fun n : Int => [.int .i64 n]) hl fun cs hcs => shp_int hcs
  refine ⟨l, ?_⟩
  rw [cl3, map_ints eu3]
theorem shp_shop {cs : List U} (h : Shp Try.prog 27 cs) : ∃ s : Shop, cs = s.cs := by
  obtain ⟨fs, e, hf⟩ := shp_fields h (by rw [f27]; simp)
  rw [f27] at e
  obtain ⟨g1, a1, b1, rfl, k1, r1, e1⟩ := shpF_cons hf e
  obtain ⟨g2, a2, b2, rfl, k2, r2, e2⟩ := shpF_cons r1 e1
  obtain ⟨g3, a3, b3, rfl, k3, r3, e3⟩ := shpF_cons r2 e2
  obtain rfl := shpF_nil r3 e3
  obtain ⟨t, rfl⟩ := shp_tris u22 cl52 f52 eu52 k1
  obtain ⟨lo, hi, rfl⟩ := shp_span k2
  obtain ⟨k, rfl⟩ := shp_tris u25 cl64 f64 eu64 k3
  exact ⟨⟨t, lo, hi, k⟩, rfl⟩
theorem u28 : Try.prog.underlying 28 = some (.array 2 3) := by kernel_rfl
theorem shp_two {cs : List U} (h : Shp Try.prog 28 cs) : ∃ a b : Int, cs = [.int .i64 a, .int .i64 b] := by
  cases h with
  | array _ n e css hu hl hn =>
    rw [u28] at hu; cases hu
    obtain ⟨l, rfl⟩ := shpL_map (f := fun n : Int => [U.int .i64 n]) hl fun cs hcs => shp_int hcs
    rw [List.length_map] at hn
    match l, hn with
    | [a, b], _ => exact ⟨a, b, rfl⟩
  | int _ k n hu _ => rw [u28] at hu; cases hu
  | bool _ _ hu => rw [u28] at hu; cases hu
  | str _ _ hu => rw [u28] at hu; cases hu
  | slice _ _ _ hu => rw [u28] at hu; cases hu
  | struct _ _ _ hu => rw [u28] at hu; cases hu
abbrev shopB (s : Shop) (c wv kn fi ch : Nat) (B2 : List U) : List U := [.lst .ro 3 (trisU s.tools), .int .i64 s.flo, .int .i64 s.fhi, .lst .ro 3 (trisU s.keys), .fn 82 [] [.box fi 0, .box kn 0, .box c 0, .box ch 0, .box wv 0], .fn 82 [] B2]
theorem Sr.lt {s : Shop} {w : Bool} {L c wv mp kn fi ch : Nat} {X : List (U × U) → List SB} (h : Sr s w L c wv mp kn fi ch X) : c < L ∧ wv < L ∧ kn < L ∧ fi < L ∧ ch < L := by
  have g : ∀ {i : Nat} {x : SB}, (X [])[i]? = some x → i < L := fun hi => by rw [← h.len []]; exact (List.getElem?_eq_some_iff.1 hi).1
  exact ⟨g (h.hc []), g (h.hw []), g (h.hk []), g (h.hf []), g (h.hh [])⟩
theorem bd_shopB {s : Shop} {w : Bool} {L c wv mp kn fi ch : Nat} {X : List (U × U) → List SB} (h : Sr s w L c wv mp kn fi ch X) {B2 : List U} (hf2 : Bd L (.fn 82 [] B2)) {k : Nat} (hk : L ≤ k) : BdS k (.box (shopB s c wv kn fi ch B2)) := by
  obtain ⟨l1, l2, l3, l4, l5⟩ := h.lt
  intro u hu
  simp only [List.mem_cons, List.not_mem_nil, or_false] at hu
  rcases hu with rfl | rfl | rfl | rfl | rfl | rfl
  · exact (dat_tris _ _ (fun h => by cases h) 0).nb.bd k
  · exact (NB.int _ _).bd k
  · exact (NB.int _ _).bd k
  · exact (dat_tris _ _ (fun h => by cases h) 0).nb.bd k
  · refine Bd.fn (fun u hu => by cases hu) fun u hu => ?_
    simp only [List.mem_cons, List.not_mem_nil, or_false] at hu
    rcases hu with rfl | rfl | rfl | rfl | rfl <;> exact Bd.box (by omega)
  · exact Bd.mono hf2 hk
theorem hit_iff {rec : Int → Int → Int} {off metal : Int} {t : Tri} {x : Int} : x ∈ hitL rec off metal t (widM t) ↔ ∃ d, t.a ≤ d ∧ d ≤ t.b ∧ rec (off + d) (metal - t.c) = x := by
  unfold hitL
  rw [List.mem_map]
  constructor
  · rintro ⟨j, hj, rfl⟩
    have := List.mem_range.1 hj
    exact ⟨t.a + j, by omega, by unfold widM at this; omega, rfl⟩
  · rintro ⟨d, h1, h2, rfl⟩
    refine ⟨(d - t.a).toNat, List.mem_range.2 (by unfold widM; omega), ?_⟩
    rw [show t.a + (((d - t.a).toNat : Nat) : Int) = d by omega]
end Go.Proofs.Ytdahbimllmapkaa.raspPlays
