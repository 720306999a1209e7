import Derived.Test.YtinhcdijbcamaaaVamT16
set_option linter.unusedVariables false
set_option linter.unusedSimpArgs false
set_option linter.constructorNameAsVariable false
namespace Go.Proofs.Ytinhcdijbcamaaa.tuneWider
open Vam
section
variable {is:FuncId→Bool}{orc:Known}
variable {t:Ts}{J:List Jn}{v x:Int}{st:List SB}
end
section
variable {is:FuncId→Bool}{orc:Known}
variable {t:Ts}{J:List Jn}{fo se le:Nat}{st Y Z:List SB}
theorem Acy.sub{F:Es}(h:Acy F):∀{E:Es},List.Sublist E F→Acy E:=by
 induction h with
 |nil=>intro E hs;rw[List.sublist_nil.1 hs];exact .nil
 |@snoc F a b h hn ih=>
  intro E hs
  obtain⟨l1,l2,rfl,h1,h2⟩:=List.sublist_append_iff.1 hs
  cases h2<;>rename_i h3
  ·rw[List.sublist_nil.1 h3,List.append_nil];exact ih h1
  ·rw[List.sublist_nil.1 h3];exact .snoc (ih h1) fun hc=>hn (hc.mono fun e he=>h1.subset he)
end
end Go.Proofs.Ytinhcdijbcamaaa.tuneWider
