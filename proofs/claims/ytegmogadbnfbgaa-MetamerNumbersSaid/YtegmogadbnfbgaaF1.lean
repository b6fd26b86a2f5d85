import Derived.Test.YtegmogadbnfbgaaF0
set_option maxHeartbeats 4000000
set_option linter.all false
/- Plain functions of palettes and spectra. -/
namespace Go.Proofs.Ytegmogadbnfbgaa
open Go Ev
noncomputable section
noncomputable def afK1:Code:=bodyC Try.f72
noncomputable def afK3:Code:=tlC afK1
noncomputable def afK6:Code:=tlC afK3
noncomputable def afK7:Code:=(hdC afK3)
noncomputable def afK9:Code:=tlC afK7
noncomputable def afK13:Code:=loopC afK9
theorem af_16 (y:Value) (L:List Int) (lo hi:Int) (hL:L.length≤1000) (h0b:∀ j,j < (L.length)→lo≤intAt (cI L) (j * 1)∧intAt (cI L) (j * 1)≤hi) (hqaf15_1:(ltI L.length L.length)=false) (w:World) (hs:List Nat):Goes Try.prog 21 afK6 (⟨[],[],0,[]⟩) (BaseW.H w hs) (OutH Try.prog Try.f72 21 (.bool (afB lo hi (cI L) L.length)) w):=by
 have hcl_L:=cI_len L
 have ghqaf15_1:=ltI_false hqaf15_1
 exact goes_leafA isR_e (goes_told Try.checked.mixed (known_none) 200 (T':=⟨[(6,(.v (.bool .true)))],[],0,[]⟩) (e:=.ret) (ps:=[]) [.go] (by kernel_rfl) (by kernel_rfl) trivial rfl) (Hd.en_eq (r:=(.bool .true)) (by rw [afB_true.2 (show afP lo hi (cI L) L.length from h0b)]) (Hd.en_ret (v:=(.v (.bool .true))) (by kernel_rfl) rfl))
theorem af_14 (y:Value) (L:List Int) (lo hi:Int) (hL:L.length≤1000) (i:Nat) (hi1:i≤L.length) (hi2:∀ j,j < i→lo≤intAt (cI L) (j * 1)∧intAt (cI L) (j * 1)≤hi) (w:World) (hs:List Nat):Goes Try.prog 21 afK13 (⟨[(0,(.v (.int .i64 (lo)))),(1,(.v (.int .i64 (hi)))),(9,(.xl (y) (L.length) 1 (cI L))),(10,(.v (.int .i64 L.length))),(11,(.v (.int .i64 i)))],[],0,[]⟩) (BaseW.H w hs) (Hd.StepC Try.prog 21 0 (fun i:{i:Nat // i≤L.length∧∀ j,j < i→lo≤intAt (cI L) (j * 1)∧intAt (cI L) (j * 1)≤hi}=>⟨[(0,(.v (.int .i64 (lo)))),(1,(.v (.int .i64 (hi)))),(9,(.xl (y) (L.length) 1 (cI L))),(10,(.v (.int .i64 L.length))),(11,(.v (.int .i64 i.1)))],[],0,[]⟩) (fun i:{i:Nat // i≤L.length∧∀ j,j < i→lo≤intAt (cI L) (j * 1)∧intAt (cI L) (j * 1)≤hi}=>L.length - i.1) afK6 w (OutH Try.prog Try.f72 21 (.bool (afB lo hi (cI L) L.length)) w) (⟨i,hi1,hi2⟩:{i:Nat // i≤L.length∧∀ j,j < i→lo≤intAt (cI L) (j * 1)∧intAt (cI L) (j * 1)≤hi})):=by
 have hcl_L:=cI_len L
 rcases Bool.eq_false_or_eq_true (ltI i L.length) with hqaf15_1 | hqaf15_1
 ·skip
  have ghqaf15_1:=ltI_true hqaf15_1
  rcases Bool.eq_false_or_eq_true (ltI (intAt (cI L) (i * 1)) lo) with hqaf15_2 | hqaf15_2
  ·skip
   have ghqaf15_2:=ltI_true hqaf15_2
   exact goes_leafA isR_e (goes_told Try.checked.mixed (known_none) 200 (T':=⟨[(6,(.v (.bool .false)))],[],0,[]⟩) (e:=.ret) (ps:=[ltI i L.length=true,i < L.length,loadL Try.prog (cI L) (i * 1) 2=some (AV.v (Value.int IntKind.i64 (intAt (cI L) (i * 1)))),(!ltI (intAt (cI L) (i * 1)) lo)=false,false=false,false=false,(!false)=true]) [.go,.b true,.sym,.sym,.go,.go,.go,.go,.go,.go,.go,.go,.go,.b false,.b false,.b false,.go,.go,.go,.b true,.go] (by kernel_rfl) (by kernel_rfl) ⟨hqaf15_1,(by omega),(by rw [Nat.mul_one]; exact cI_load (show _ < L.length by omega) 2 (Try.underlying2) rfl),(by rw [hqaf15_2]; rfl),rfl,rfl,rfl,trivial⟩ rfl) (Hd.en_so (by intro h; cases h) (by intro h; cases h) (Hd.en_eq (r:=(.bool .false)) (by rw [afB_no (c:=cI L) (lo:=lo) (hi:=hi) (n:=L.length) (i:=i) (by omega) (by omega)]) (Hd.en_ret (v:=(.v (.bool .false))) (by kernel_rfl) rfl)))
  ·skip
   have ghqaf15_2:=ltI_false hqaf15_2
   rcases Bool.eq_false_or_eq_true (ltI hi (intAt (cI L) (i * 1))) with hqaf15_3 | hqaf15_3
   ·skip
    have ghqaf15_3:=ltI_true hqaf15_3
    exact goes_leafA isR_e (goes_told Try.checked.mixed (known_none) 200 (T':=⟨[(6,(.v (.bool .false)))],[],0,[]⟩) (e:=.ret) (ps:=[ltI i L.length=true,i < L.length,loadL Try.prog (cI L) (i * 1) 2=some (AV.v (Value.int IntKind.i64 (intAt (cI L) (i * 1)))),(!ltI (intAt (cI L) (i * 1)) lo)=true,true=true,true=true,(!!ltI hi (intAt (cI L) (i * 1)))=true]) [.go,.b true,.sym,.sym,.go,.go,.go,.go,.go,.go,.go,.go,.go,.b true,.go,.b true,.go,.b true,.go,.go,.go,.go,.b true,.go] (by kernel_rfl) (by kernel_rfl) ⟨hqaf15_1,(by omega),(by rw [Nat.mul_one]; exact cI_load (show _ < L.length by omega) 2 (Try.underlying2) rfl),(by rw [hqaf15_2]; rfl),rfl,rfl,(by rw [hqaf15_3]; rfl),trivial⟩ rfl) (Hd.en_so (by intro h; cases h) (by intro h; cases h) (Hd.en_eq (r:=(.bool .false)) (by rw [afB_no (c:=cI L) (lo:=lo) (hi:=hi) (n:=L.length) (i:=i) (by omega) (by omega)]) (Hd.en_ret (v:=(.v (.bool .false))) (by kernel_rfl) rfl)))
   ·skip
    have ghqaf15_3:=ltI_false hqaf15_3
    exact goes_leafA isN_e (goes_told Try.checked.mixed (known_none) 200 (T':=⟨[(0,(.v (.int .i64 (lo)))),(1,(.v (.int .i64 (hi)))),(9,(.xl (y) (L.length) 1 (cI L))),(10,(.v (.int .i64 L.length))),(11,(.v (.int .i64 (((i + 1):Nat):Int))))],[],0,[]⟩) (e:=.normal) (ps:=[ltI i L.length=true,i < L.length,loadL Try.prog (cI L) (i * 1) 2=some (AV.v (Value.int IntKind.i64 (intAt (cI L) (i * 1)))),(!ltI (intAt (cI L) (i * 1)) lo)=true,true=true,true=true,(!!ltI hi (intAt (cI L) (i * 1)))=false,inR IntKind.i64 (((i:Nat):Int) + 1)]) [.go,.b true,.sym,.sym,.go,.go,.go,.go,.go,.go,.go,.go,.go,.b true,.go,.b true,.go,.b true,.go,.go,.go,.go,.b false,.go,.go] (by kernel_rfl) (by kernel_rfl) ⟨hqaf15_1,(by omega),(by rw [Nat.mul_one]; exact cI_load (show _ < L.length by omega) 2 (Try.underlying2) rfl),(by rw [hqaf15_2]; rfl),rfl,rfl,(by rw [hqaf15_3]; rfl),(by show -9223372036854775808≤_∧_≤9223372036854775807; constructor <;> omega),trivial⟩ rfl) (Hd.en_on (⟨i + 1,by omega,(up_next (q:=fun j=>lo≤intAt (cI L) (j * 1)∧intAt (cI L) (j * 1)≤hi) hi2 (by constructor <;> omega))⟩) (by show L.length - (i + 1) < L.length - i; omega) rfl)
 ·skip
  have ghqaf15_1:=ltI_false hqaf15_1
  obtain rfl:i=L.length:=by omega
  exact goes_leafA isX_e (goes_told Try.checked.mixed (known_none) 200 (T':=⟨[],[],0,[]⟩) (e:=.exit 0) (ps:=[ltI L.length L.length=false]) [.go,.b false] (by kernel_rfl) (by kernel_rfl) ⟨hqaf15_1,trivial⟩ rfl) (Hd.en_sx (af_16 y L lo hi hL hi2  hqaf15_1 w hs))
theorem af_12 (y:Value) (L:List Int) (lo hi:Int) (hL:L.length≤1000) (w:World) (hs:List Nat):Goes Try.prog 21 afK9 (⟨[(0,(.v (.int .i64 (lo)))),(1,(.v (.int .i64 (hi)))),(9,(.xl (y) (L.length) 1 (cI L))),(10,(.v (.int .i64 L.length))),(11,(.v (.int .i64 (.ofNat 0))))],[],0,[]⟩) (BaseW.H w hs) (Hd.AfterN Try.prog 21 afK6 w (OutH Try.prog Try.f72 21 (.bool (afB lo hi (cI L) L.length)) w)):=by
 have hcl_L:=cI_len L
 exact Hd.goes_loopA (id:=0) (by kernel_rfl) (by kernel_rfl) (fun i:{i:Nat // i≤L.length∧∀ j,j < i→lo≤intAt (cI L) (j * 1)∧intAt (cI L) (j * 1)≤hi}=>⟨[(0,(.v (.int .i64 (lo)))),(1,(.v (.int .i64 (hi)))),(9,(.xl (y) (L.length) 1 (cI L))),(10,(.v (.int .i64 L.length))),(11,(.v (.int .i64 i.1)))],[],0,[]⟩) (fun i:{i:Nat // i≤L.length∧∀ j,j < i→lo≤intAt (cI L) (j * 1)∧intAt (cI L) (j * 1)≤hi}=>L.length - i.1) (fun ix_ hs=>af_14 y L lo hi hL ix_.1 ix_.2.1 ix_.2.2 w hs) ⟨0,Nat.zero_le _,(fun j hj=>by omega)⟩ hs
theorem af_11 (y:Value) (L:List Int) (lo hi:Int) (hL:L.length≤1000) (w:World) (hs:List Nat):Goes Try.prog 21 afK9 (⟨[(0,(.v (.int .i64 (lo)))),(1,(.v (.int .i64 (hi)))),(9,(.xl (y) (L.length) 1 (cI L))),(10,(.v (.int .i64 L.length))),(11,(.v (.int .i64 (.ofNat 0))))],[],0,[]⟩) (BaseW.H w hs) (Hd.AfterN Try.prog 21 afK6 w (OutH Try.prog Try.f72 21 (.bool (afB lo hi (cI L) L.length)) w)):=by
 exact af_12 y L lo hi hL w hs
theorem af_8 (y:Value) (L:List Int) (lo hi:Int) (hL:L.length≤1000) (w:World) (hs:List Nat):Goes Try.prog 21 afK7 (⟨[(0,(.v (.int .i64 (lo)))),(1,(.v (.int .i64 (hi)))),(2,(.xl (y) (L.length) 1 (cI L)))],[],0,[]⟩) (BaseW.H w hs) (Hd.AfterN Try.prog 21 afK6 w (OutH Try.prog Try.f72 21 (.bool (afB lo hi (cI L) L.length)) w)):=by
 have hcl_L:=cI_len L
 refine Hd.goes_seqA (by kernel_rfl) ?_
 exact goes_leafA isN_e (goes_told Try.checked.mixed (known_none) 200 (T':=⟨[(0,(.v (.int .i64 (lo)))),(1,(.v (.int .i64 (hi)))),(9,(.xl (y) (L.length) 1 (cI L))),(10,(.v (.int .i64 L.length))),(11,(.v (.int .i64 (.ofNat 0))))],[],0,[]⟩) (e:=.normal) (ps:=[]) [.go,.go,.go] (by kernel_rfl) (by kernel_rfl) trivial rfl) (Hd.en_n (af_11 y L lo hi hL w hs))
theorem af_5 (y:Value) (L:List Int) (lo hi:Int) (hL:L.length≤1000) (w:World) (hs:List Nat):Goes Try.prog 21 afK3 (⟨[(0,(.v (.int .i64 (lo)))),(1,(.v (.int .i64 (hi)))),(2,(.xl (y) (L.length) 1 (cI L)))],[],0,[]⟩) (BaseW.H w hs) (OutH Try.prog Try.f72 21 (.bool (afB lo hi (cI L) L.length)) w):=by
 exact Hd.goes_seqA (by kernel_rfl) (af_8 y L lo hi hL w hs)
theorem af_2 (y:Value) (L:List Int) (lo hi:Int) (hL:L.length≤1000) (w:World) (hs:List Nat):Goes Try.prog 21 afK1 (⟨[(0,(.v (.int .i64 lo))),(1,(.v (.int .i64 hi))),(2,(.xl y L.length 1 (cI L)))],[],0,[]⟩) (BaseW.H w hs) (OutH Try.prog Try.f72 21 (.bool (afB lo hi (cI L) L.length)) w):=by
 have hcl_L:=cI_len L
 refine Hd.goes_seqA (by kernel_rfl) ?_
 exact goes_leafA isN_e (goes_told Try.checked.mixed (known_none) 200 (T':=⟨[(0,(.v (.int .i64 (lo)))),(1,(.v (.int .i64 (hi)))),(2,(.xl (y) (L.length) 1 (cI L)))],[],0,[]⟩) (e:=.normal) (ps:=[]) [.go] (by kernel_rfl) (by kernel_rfl) trivial rfl) (Hd.en_n (af_5 y L lo hi hL w hs))
theorem af_g (y:Value) (L:List Int) (lo hi:Int) (hL:L.length≤1000):GivesA Try.prog 72 [(.v (.int .i64 lo)),(.v (.int .i64 hi)),(.xl y L.length 1 (cI L))] (.bool (afB lo hi (cI L) L.length)) :=
 givesA_partsH 21 Try.func72 (by kernel_rfl) (by kernel_rfl) (by kernel_rfl) (fun w=>goes_less (by kernel_rfl) (by kernel_rfl) (by kernel_rfl) (by kernel_rfl) (af_2 y L lo hi hL w []))
end
end Go.Proofs.Ytegmogadbnfbgaa
