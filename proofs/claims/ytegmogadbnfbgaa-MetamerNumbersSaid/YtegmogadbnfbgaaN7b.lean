import Derived.Test.YtegmogadbnfbgaaN7
set_option linter.all false
/- A chip, looked at. -/
namespace Go.Proofs.Ytegmogadbnfbgaa
open Go Ev
noncomputable section
noncomputable def laK1:Code:=bodyC Try.f53
set_option maxHeartbeats 2000000 in
theorem la_2 (y:Value) (E:List (Value×List (Int×Int))) (yl:Value) (L:List (Int×Int)) (z:Value) (M:List Int) (v:BaseW) (eb:Nat→Option Nat) (ec:Nat→Nat) (hs:List Nat):Goes Try.prog 9 laK1 (⟨[(0,(.agg [.xl y E.length 1 (cQw E),.xl yl L.length 2 (cR L)])),(1,(.xl z M.length 1 (cI M)))],[],0,[]⟩) (BaseW.H (bw v 0 eb ec) hs) (OutM Try.prog Try.f53 9 ((.agg [.xl y E.length 1 (cQw E),.xl yl L.length 2 (cR L),(.fn (.func 78) [.xl z M.length 1 (cI M)] [])])) [] (bw v 0 eb ec)):=by
 have hcl_L:=cR_len L
 have hcl_M:=cI_len M
 exact goes_leafA isR_e (goes_cutR Try.checked.mixed (known_none) 200 (T':=⟨[(4,(.ptr 0 0))],[],1,[(0,(.cells [(.xl (y) (E.length) 1 (cQw E)),(.xl (yl) (L.length) 2 (cR L)),(.fn (.func 78) [(.xl (z) (M.length) 1 (cI M))] [])] 85))]⟩) (e:=.ret) (m:=2) (ps:=[]) [.go,.go,.go,.go,.go,.go,.go] [1] [(.ptr 1 0)] [(.cells [(.xl (y) (E.length) 1 (cQw E)),(.xl (yl) (L.length) 2 (cR L)),(.fn (.func 78) [(.xl (z) (M.length) 1 (cI M))] [])] 85)] (by kernel_rfl) (by kernel_rfl) trivial rfl rfl (by decide) rfl ⟨nr_ptr rfl,trivial⟩ ⟨⟨by show 0 < 1; decide,nrb_cells (nrl_cons (nr_free (freeL_xl (freeL_plainQ _))) (nrl_cons (nr_xl (nrl_plain (cR_plain L))) (nrl_cons (nr_fn (nrl_cons (nr_xl (nrl_plain (cI_plain M))) (nrl_nil)) (nrl_nil)) (nrl_nil))))⟩,trivial⟩) (en_eqM (r:=(.agg [(.xl (y) (E.length) 1 (cQw E)),(.xl (yl) (L.length) 2 (cR L)),(.fn (.func 78) [(.xl (z) (M.length) 1 (cI M))] [])])) (ys:=[]) (by rfl) (by rfl) (en_retM (by kernel_rfl) (by kernel_rfl) rfl (.inr rfl)))
theorem la_g (y:Value) (E:List (Value×List (Int×Int))) (yl:Value) (L:List (Int×Int)) (z:Value) (M:List Int):GivesM Try.prog 53 [(.agg [.xl y E.length 1 (cQw E),.xl yl L.length 2 (cR L)]),(.xl z M.length 1 (cI M))] [] ((.agg [.xl y E.length 1 (cQw E),.xl yl L.length 2 (cR L),(.fn (.func 78) [.xl z M.length 1 (cI M)] [])])) [] :=
 givesM_parts 9 (by kernel_rfl) Try.func53 (by kernel_rfl) (by kernel_rfl) (by kernel_rfl) (fun v eb ec=>goes_less (by kernel_rfl) (by kernel_rfl) (by kernel_rfl) (by kernel_rfl) (la_2 y E yl L z M v eb ec []))
end
end Go.Proofs.Ytegmogadbnfbgaa
