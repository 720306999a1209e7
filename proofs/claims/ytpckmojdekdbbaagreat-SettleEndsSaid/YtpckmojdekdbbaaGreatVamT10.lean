import Derived.Test.YtpckmojdekdbbaaGreatVamT9
set_option linter.unusedVariables false
set_option linter.unusedSimpArgs false
set_option linter.constructorNameAsVariable false
namespace Go.Proofs.YtpckmojdekdbbaaGreat.settles
open Vam
variable {is:FuncId→Bool}{orc:Known}{z:Zt}
theorem ty29:tyOf Tryz.prog 29=.array 2 3:=by kernel_rfl
theorem tru_iff(h:ZOk z):truB z=true↔ ∀k,k<z.keys.length→trueK z k:=by
 unfold truB trueK
 rw[List.all_eq_true]
 have e:∀k,(!conB (pitS z k) (z.yrs.toNat+1))=true↔ ∀y,y≤z.yrs.toNat→(pitS z k y).1≤(pitS z k y).2:=fun k=>by
  rw[Bool.not_eq_true',con_iff]
  exact⟨fun h y hy=>h y (by omega),fun h y hy=>h y (by omega)⟩
 constructor
 ·intro h2 k hk;exact(e k).1 (h2 k (List.mem_range.2 hk))
 ·intro h2 k hk;exact(e k).2 (h2 k (List.mem_range.1 hk))
theorem wasE_ok(h:ZOk z){k y:Int}(hk:0≤k∧k<z.keys.length)(hy:0≤y∧y≤z.yrs):wasE z k y=0∨wasE z k y=42:=by
 unfold wasE askT askV
 rw[zBR.2 h,spot_iff.2 ⟨hk,hy⟩]
 cases truB z<;>simp
theorem spn_ne(x y:Sp):binV Tryz.prog 35 .neq (valK (spU x)) (valK (spU y))=some (.bool (!decide (x=y))):=by
 obtain⟨a,b⟩:=x
 obtain⟨c,d⟩:=y
 have h:binV Tryz.prog 35 .neq (valK (yQ a b)) (valK (yQ c d))=opt none (fun x=>some (V.bool (!x))) (Vam.cond (ieq a c) (Vam.cond (ieq b d) (some true) (some false)) (some false)):=by kernel_rfl
 show binV Tryz.prog 35 .neq (valK (yQ a b)) (valK (yQ c d))=_
 rw[h,zAT,zAT]
 have e:decide ((a,b)=(c,d))=((a==c)&&(b==d)):=by
  rw[Bool.eq_iff_iff,decide_eq_true_eq,Bool.and_eq_true,beq_iff_eq,beq_iff_eq,Prod.mk.injEq]
 rw[e]
 cases a==c<;>cases b==d<;>rfl
end Go.Proofs.YtpckmojdekdbbaaGreat.settles
