import Derived.Test.YthhbfbmfhldbaaaDoorVamT25
set_option linter.unusedVariables false
set_option linter.unusedSimpArgs false
set_option linter.constructorNameAsVariable false
namespace Go.Proofs.YthhbfbmfhldbaaaDoor.locks
open Vam
section
variable {l:Ln}
theorem cnt_all{w:Int}{H:List Int}{L:List (List Int)}{k:Nat}:lcnt w H L k=L.length↔ ∀p∈L,losF w H p k=true:=by
 unfold lcnt
 rw[List.length_filter_eq_length_iff]
theorem cnt_pos{w:Int}{H:List Int}{L:List (List Int)}{k:Nat}:0<lcnt w H L k↔ ∃p∈L,losF w H p k=true:=by
 unfold lcnt
 rw[List.length_pos_iff_exists_mem]
 constructor
 ·rintro⟨p,hp⟩;obtain⟨h1,h2⟩:=List.mem_filter.1 hp;exact⟨p,h1,h2⟩
 ·rintro⟨p,h1,h2⟩;exact⟨p,List.mem_filter.2 ⟨h1,h2⟩⟩
theorem all_iff{w:Int}{H:List Int}{L:List (List Int)}{k:Nat}:allF L.length (lcnt w H L) k=true↔ ∀p∈L,losF w H p k=true:=by
 unfold allF
 rw[decide_eq_true_eq,cnt_all]
theorem som_iff{w:Int}{H:List Int}{L:List (List Int)}{k:Nat}:somF L.length (lcnt w H L) k=true↔(∃p∈L,losF w H p k=true)∧ ¬ ∀p∈L,losF w H p k=true:=by
 unfold somF
 rw[Bool.and_eq_true,decide_eq_true_eq,decide_eq_true_eq,cnt_pos,←cnt_all]
 have:=lcnt_le w H L k
 constructor
 ·rintro⟨h1,h2⟩;exact⟨h1,by omega⟩
 ·rintro⟨h1,h2⟩;exact⟨h1,by omega⟩
end
section
variable {is:FuncId→Bool}{orc:Known}{l:Ln}
theorem accI_ro2(L:List Int):UW (.u (accI L)) (.u (.lst .ro 1 (zD L))):=by
 cases L with
 |nil=>exact .nil .full .ro 1
 |cons y L=>exact .ro _ _ _
theorem misB_len(l:Ln)(w:Int)(H:List Int)(m:Int):(misB l w H m).length≤16:=by
 have e:∀(P:Prop) [Decidable P] (L:List Int),L.length≤16→(if P then L else []).length≤16:=fun P _ L h=>by
  by_cases c:P
  ·rw[if_pos c];exact h
  ·rw[if_neg c];exact Nat.zero_le _
 exact e _ _ (zAe _ _)
end
end Go.Proofs.YthhbfbmfhldbaaaDoor.locks
