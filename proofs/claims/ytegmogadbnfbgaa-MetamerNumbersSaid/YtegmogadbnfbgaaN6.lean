import Derived.Test.YtegmogadbnfbgaaN5
set_option linter.all false
/- What is known of sums. -/
namespace Go.Proofs.Ytegmogadbnfbgaa
open Go Ev
noncomputable section
def seS:List AV→List AB→Option ((AV×List AB)×List Prop):=fun args xs =>
 match args,xs with
 | [.agg [.xl y me k1 cE,.xl yl n k2 cL,.fn (.func f) lz lc],.fn (.func g) gl gc],[.cells l1 t1,.cells l2 t2]=>match l1,lz,lc,gl,gc with
  | [.xl u m k3 cX,.xl ul j k4 cY],[.xl z r k5 cM],[],[],[p,q]=>match Nat.beq f 78,Nat.beq g 80,isP0 p 0,isP0 q 1 with
   | true,true,true,true=>some ((.agg [.v (.int .i64 (smF (nuP cX cY cM 0) n)),.v (.int .i64 (smF (nuP cX cY cM 1) n)),.v (.int .i64 (smF (nuP cX cY cM 2) n))],[.cells l1 t1,.cells l2 t2]),[IsTrT t1,IsSiT t2,IsEq k1 cE me,IsPr k2 n cL,NuOK k3 m k4 j k5 r cX cY cM n,n≤8,l2=[.xl y me k1 cE,.xl yl n k2 cL,.fn (.func f) lz lc]])
   | _,_,_,_=>none
  | _,_,_,_,_=>none
 | _,_=>none
def seO:OrcH:=mOrc 79 seS
theorem known_se:Known Try.prog (clsO seO):=known_m (fun args xs r ys ps h hp=>by
 unfold seS at h
 split at h
 ·split at h
  ·split at h
   ·rename_i e1 e2 e3 e4
    cases h
    obtain ⟨rfl,rfl,⟨rfl,E,rfl,rfl⟩,⟨rfl,L,rfl,rfl⟩,⟨X,Y,M,⟨rfl,rfl,rfl⟩,⟨rfl,rfl,rfl⟩,⟨rfl,rfl,rfl⟩,h1,h2,h3,h4,h5,h6,h7⟩,h8,rfl,-⟩:=hp
    rw [isP0_ok e3,isP0_ok e4,Nat.eq_of_beq_eq_true e1,Nat.eq_of_beq_eq_true e2]
    exact ⟨free_two X Y E L M,free_two X Y E L M,se_g _ E _ L _ X _ Y _ M h8 h1 h2 h3 h4 h5 h6 h7⟩
   ·cases h
  ·cases h
 ·cases h)
noncomputable def nnK1:Code:=bodyC Try.f54
set_option maxHeartbeats 2000000 in
theorem nn_2 (y:Value) (E:List (Value×List (Int×Int))) (yl:Value) (L:List (Int×Int)) (u:Value) (X:List (Value×List Int)) (ul:Value) (Y:List Int) (z:Value) (M:List Int) (hn8:L.length≤8) (hx3:X.length=3) (hxr:∀ i,i < 3→xlN (cRw X) (i * 1)=L.length) (hy:Y.length=L.length) (hm:M.length=L.length) (hx1:∀ i,i < 3→∀ b,b < L.length→0≤intAt (xlC (cRw X) (i * 1)) (b * 1)∧intAt (xlC (cRw X) (i * 1)) (b * 1)≤100) (hy1:∀ b,b < L.length→0≤intAt (cI Y) (b * 1)∧intAt (cI Y) (b * 1)≤100) (hm1:∀ b,b < L.length→0≤intAt (cI M) (b * 1)∧intAt (cI M) (b * 1)≤1000) (w:World) (hs:List Nat):Goes Try.prog 8 nnK1 (⟨[(0,(.agg [.xl y E.length 1 (cQw E),.xl yl L.length 2 (cR L),(.fn (.func 78) [.xl z M.length 1 (cI M)] [])])),(1,(.agg [.xl u X.length 1 (cRw X),.xl ul Y.length 1 (cI Y)]))],[],0,[]⟩) (BaseW.H w hs) (OutH Try.prog Try.f54 8 (.agg #[.int .i64 (smF (nuP (cRw X) (cI Y) (cI M) 0) L.length),.int .i64 (smF (nuP (cRw X) (cI Y) (cI M) 1) L.length),.int .i64 (smF (nuP (cRw X) (cI Y) (cI M) 2) L.length)]) w):=by
 have hcl_L:=cR_len L
 have hcl_Y:=cI_len Y
 have hcl_M:=cI_len M
 exact goes_leafA isR_e (goes_told Try.checked.mixed (known_se) 200 (T':=⟨[(4,(.ptr 2 0))],[],3,[(2,(.cells [(.v (.int .i64 (smF (nuP (cRw X) (cI Y) (cI M) 0) L.length))),(.v (.int .i64 (smF (nuP (cRw X) (cI Y) (cI M) 1) L.length))),(.v (.int .i64 (smF (nuP (cRw X) (cI Y) (cI M) 2) L.length)))] 82))]⟩) (e:=.ret) (ps:=[FreeL (cQw E),FreeL (cR L),FreeL (cI M),IsTrT 29,IsSiT 85,IsEq 1 (cQw E) E.length,IsPr 2 L.length (cR L),NuOK 1 X.length 1 Y.length 1 M.length (cRw X) (cI Y) (cI M) L.length,L.length≤8,(AV.agg [AV.xl y E.length 1 (cQw E),AV.xl yl L.length 2 (cR L),AV.fn (Fn.func 78) [AV.xl z M.length 1 (cI M)] []]).cells=[AV.xl y E.length 1 (cQw E),AV.xl yl L.length 2 (cR L),AV.fn (Fn.func 78) [AV.xl z M.length 1 (cI M)] []]]) [.go,.go,.go,.go,.go,.go] (by kernel_rfl) (by kernel_rfl) ⟨(freeL_plainQ E),(freeL_plain (cR_plain _)),(freeL_plain (cI_plain _)),rfl,rfl,⟨rfl,E,rfl,rfl⟩,⟨rfl,L,rfl,rfl⟩,⟨X,Y,M,⟨rfl,rfl,rfl⟩,⟨rfl,rfl,rfl⟩,⟨rfl,rfl,rfl⟩,hx3,hxr,hy,hm,hx1,hy1,hm1⟩,hn8,rfl,trivial⟩ rfl) (Hd.en_eq (r:=.agg #[(.int .i64 (smF (nuP (cRw X) (cI Y) (cI M) 0) L.length)),(.int .i64 (smF (nuP (cRw X) (cI Y) (cI M) 1) L.length)),(.int .i64 (smF (nuP (cRw X) (cI Y) (cI M) 2) L.length))]) (by rfl) (Hd.en_ret (v:=(.agg [(.v (.int .i64 (smF (nuP (cRw X) (cI Y) (cI M) 0) L.length))),(.v (.int .i64 (smF (nuP (cRw X) (cI Y) (cI M) 1) L.length))),(.v (.int .i64 (smF (nuP (cRw X) (cI Y) (cI M) 2) L.length)))])) (by kernel_rfl) rfl))
theorem nn_g (y:Value) (E:List (Value×List (Int×Int))) (yl:Value) (L:List (Int×Int)) (u:Value) (X:List (Value×List Int)) (ul:Value) (Y:List Int) (z:Value) (M:List Int) (hn8:L.length≤8) (hx3:X.length=3) (hxr:∀ i,i < 3→xlN (cRw X) (i * 1)=L.length) (hy:Y.length=L.length) (hm:M.length=L.length) (hx1:∀ i,i < 3→∀ b,b < L.length→0≤intAt (xlC (cRw X) (i * 1)) (b * 1)∧intAt (xlC (cRw X) (i * 1)) (b * 1)≤100) (hy1:∀ b,b < L.length→0≤intAt (cI Y) (b * 1)∧intAt (cI Y) (b * 1)≤100) (hm1:∀ b,b < L.length→0≤intAt (cI M) (b * 1)∧intAt (cI M) (b * 1)≤1000):GivesA Try.prog 54 [(.agg [.xl y E.length 1 (cQw E),.xl yl L.length 2 (cR L),(.fn (.func 78) [.xl z M.length 1 (cI M)] [])]),(.agg [.xl u X.length 1 (cRw X),.xl ul Y.length 1 (cI Y)])] (.agg #[.int .i64 (smF (nuP (cRw X) (cI Y) (cI M) 0) L.length),.int .i64 (smF (nuP (cRw X) (cI Y) (cI M) 1) L.length),.int .i64 (smF (nuP (cRw X) (cI Y) (cI M) 2) L.length)]) :=
 givesA_partsH 8 Try.func54 (by kernel_rfl) (by kernel_rfl) (by kernel_rfl) (fun w=>goes_less (by kernel_rfl) (by kernel_rfl) (by kernel_rfl) (by kernel_rfl) (nn_2 y E yl L u X ul Y z M hn8 hx3 hxr hy hm hx1 hy1 hm1 w []))
end
end Go.Proofs.Ytegmogadbnfbgaa
