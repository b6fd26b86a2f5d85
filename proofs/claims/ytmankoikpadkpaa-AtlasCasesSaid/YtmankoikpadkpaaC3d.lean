import Derived.Test.YtmankoikpadkpaaC3a
set_option maxHeartbeats 4000000
set_option linter.all false
/- Lists compared. -/
namespace Go.Proofs.Ytmankoikpadkpaa
open Go Ev
noncomputable section
noncomputable def saK1:Code:=bodyC Try.f20
noncomputable def saK3:Code:=tlC saK1
noncomputable def saK6:Code:=tlC saK3
noncomputable def saK9:Code:=tlC saK6
noncomputable def saK10:Code:=(hdC saK6)
noncomputable def saK12:Code:=tlC saK10
noncomputable def saK16:Code:=loopC saK12
theorem sa_19 (z:Value) (X L:List Int) (hX:X.length≤1000) (hqsa7_1:(eqI ((X.length:Nat):Int) ((L.length:Nat):Int))=true) (h0b:∀ j,j < (X.length)→intAt (cI X) j=intAt (cI L) j) (hqsa18_1:(ltI ((X.length:Nat):Int) ((X.length:Nat):Int))=false) (v:BaseW) (eb:Nat→Option Nat) (ec:Nat→Nat) (hs:List Nat):Goes Try.prog 26 saK9 (⟨[],[],1,[(0,(.row (cI X) 3 1))]⟩) (BaseW.H (bw v 1 eb ec) hs) (OutM Try.prog Try.f20 26 ((.v (.bool (smB (cI X) (cI L))))) [(.row (cI X) 3 1)] (bw v 1 eb ec)):=by
 have hcl_X:=cI_len X
 have hcl_L:=cI_len L
 have ghqsa7_1:=eqI_true hqsa7_1
 have ghqsa18_1:=ltI_false hqsa18_1
 exact goes_leafA isR_e (goes_told Try.checked.mixed (known_none) 200 (T':=⟨[(4,(.v (.bool .true)))],[],1,[(0,(.row (cI X) 3 1))]⟩) (e:=.ret) (ps:=[]) [.go] (by kernel_rfl) (by kernel_rfl) trivial rfl) (en_eqM (r:=(.v (.bool .true))) (ys:=[(.row (cI X) 3 1)]) (by rw [sm_ok (by omega) (fun j hj=>h0b j hj)]) (by rfl) (en_retM (by kernel_rfl) (by kernel_rfl) rfl (.inr rfl)))
theorem sa_17 (z:Value) (X L:List Int) (hX:X.length≤1000) (hqsa7_1:(eqI ((X.length:Nat):Int) ((L.length:Nat):Int))=true) (i:Nat) (hi1:i≤X.length) (hi2:∀ j,j < i→intAt (cI X) j=intAt (cI L) j) (v:BaseW) (eb:Nat→Option Nat) (ec:Nat→Nat) (hs:List Nat):Goes Try.prog 26 saK16 (⟨[(0,(.slu 0 0 (X.length) 0)),(1,(.xl (z) (L.length) 1 (cI L))),(5,(.v (.int .i64 ((i:Nat):Int))))],[],1,[(0,(.row (cI X) 3 1))]⟩) (BaseW.H (bw v 1 eb ec) hs) (Hd.StepC Try.prog 26 0 (fun i:{i:Nat // i≤X.length∧∀ j,j < i→intAt (cI X) j=intAt (cI L) j}=>⟨[(0,(.slu 0 0 (X.length) 0)),(1,(.xl (z) (L.length) 1 (cI L))),(5,(.v (.int .i64 ((i.1:Nat):Int))))],[],1,[(0,(.row (cI X) 3 1))]⟩) (fun i:{i:Nat // i≤X.length∧∀ j,j < i→intAt (cI X) j=intAt (cI L) j}=>X.length - i.1) saK9 (bw v 1 eb ec) (OutM Try.prog Try.f20 26 ((.v (.bool (smB (cI X) (cI L))))) [(.row (cI X) 3 1)] (bw v 1 eb ec)) (⟨i,hi1,hi2⟩:{i:Nat // i≤X.length∧∀ j,j < i→intAt (cI X) j=intAt (cI L) j})):=by
 have hcl_X:=cI_len X
 have hcl_L:=cI_len L
 have ghqsa7_1:=eqI_true hqsa7_1
 rcases Bool.eq_false_or_eq_true (ltI ((i:Nat):Int) ((X.length:Nat):Int)) with hqsa18_1 | hqsa18_1
 ·skip
  have ghqsa18_1:=ltI_true hqsa18_1
  rcases Bool.eq_false_or_eq_true (eqI (intAt (cI X) (0 + i * 1)) (intAt (cI L) (i * 1))) with hqsa18_2 | hqsa18_2
  ·skip
   have ghqsa18_2:=eqI_true hqsa18_2
   exact goes_leafA isN_e (goes_told Try.checked.mixed (known_none) 200 (T':=⟨[(0,(.slu 0 0 (X.length) 0)),(1,(.xl (z) (L.length) 1 (cI L))),(5,(.v (.int .i64 (((i + 1):Nat):Int))))],[],1,[(0,(.row (cI X) 3 1))]⟩) (e:=.normal) (ps:=[ltI ((i:Nat):Int) ((X.length:Nat):Int)=true,i < X.length,loadL Try.prog (cI X) (0 + i * 1) 3=some (AV.v (Value.int IntKind.i64 (intAt (cI X) (0 + i * 1)))),i < L.length,loadL Try.prog (cI L) (i * 1) 3=some (AV.v (Value.int IntKind.i64 (intAt (cI L) (i * 1)))),(!eqI (intAt (cI X) (0 + i * 1)) (intAt (cI L) (i * 1)))=false,inR IntKind.i64 (((i:Nat):Int) + 1)]) [.go,.go,.go,.go,.b true,.go,.go,.sym,.sym,.go,.go,.sym,.sym,.go,.b false,.go,.go,.go] (by kernel_rfl) (by kernel_rfl) ⟨hqsa18_1,(by omega),(cI_load (show _ < X.length by omega) 3 (Try.underlying3) rfl),(by omega),(cI_load (show _ < L.length by omega) 3 (Try.underlying3) rfl),(by rw [hqsa18_2]; rfl),(by show -9223372036854775808≤_∧_≤9223372036854775807; constructor <;> omega),trivial⟩ rfl) (Hd.en_on (⟨i + 1,by omega,(eq_next hi2 (by have h9:=eqI_true hqsa18_2; rw [Nat.zero_add,Nat.mul_one] at h9; exact h9))⟩) (by show X.length - (i + 1) < X.length - i; omega) rfl)
  ·skip
   have ghqsa18_2:=eqI_false hqsa18_2
   exact goes_leafA isR_e (goes_told Try.checked.mixed (known_none) 200 (T':=⟨[(4,(.v (.bool .false)))],[],1,[(0,(.row (cI X) 3 1))]⟩) (e:=.ret) (ps:=[ltI ((i:Nat):Int) ((X.length:Nat):Int)=true,i < X.length,loadL Try.prog (cI X) (0 + i * 1) 3=some (AV.v (Value.int IntKind.i64 (intAt (cI X) (0 + i * 1)))),i < L.length,loadL Try.prog (cI L) (i * 1) 3=some (AV.v (Value.int IntKind.i64 (intAt (cI L) (i * 1)))),(!eqI (intAt (cI X) (0 + i * 1)) (intAt (cI L) (i * 1)))=true]) [.go,.go,.go,.go,.b true,.go,.go,.sym,.sym,.go,.go,.sym,.sym,.go,.b true,.go] (by kernel_rfl) (by kernel_rfl) ⟨hqsa18_1,(by omega),(cI_load (show _ < X.length by omega) 3 (Try.underlying3) rfl),(by omega),(cI_load (show _ < L.length by omega) 3 (Try.underlying3) rfl),(by rw [hqsa18_2]; rfl),trivial⟩ rfl) (Hd.en_so (by intro h; cases h) (by intro h; cases h) (en_eqM (r:=(.v (.bool .false))) (ys:=[(.row (cI X) 3 1)]) (by rw [sm_no (i:=i) (by omega) (by omega) (by have h9:=eqI_false hqsa18_2; rw [Nat.zero_add,Nat.mul_one] at h9; exact h9)]) (by rfl) (en_retM (by kernel_rfl) (by kernel_rfl) rfl (.inr rfl))))
 ·skip
  have ghqsa18_1:=ltI_false hqsa18_1
  obtain rfl:i=X.length:=by omega
  exact goes_leafA isX_e (goes_told Try.checked.mixed (known_none) 200 (T':=⟨[],[],1,[(0,(.row (cI X) 3 1))]⟩) (e:=.exit 0) (ps:=[ltI ((X.length:Nat):Int) ((X.length:Nat):Int)=false]) [.go,.go,.go,.go,.b false] (by kernel_rfl) (by kernel_rfl) ⟨hqsa18_1,trivial⟩ rfl) (Hd.en_sx (sa_19 z X L hX hqsa7_1 hi2  hqsa18_1 v eb ec hs))
theorem sa_15 (z:Value) (X L:List Int) (hX:X.length≤1000) (hqsa7_1:(eqI ((X.length:Nat):Int) ((L.length:Nat):Int))=true) (v:BaseW) (eb:Nat→Option Nat) (ec:Nat→Nat) (hs:List Nat):Goes Try.prog 26 saK12 (⟨[(0,(.slu 0 0 (X.length) 0)),(1,(.xl (z) (L.length) 1 (cI L))),(5,(.v (.int .i64 (.ofNat 0))))],[],1,[(0,(.row (cI X) 3 1))]⟩) (BaseW.H (bw v 1 eb ec) hs) (Hd.AfterN Try.prog 26 saK9 (bw v 1 eb ec) (OutM Try.prog Try.f20 26 ((.v (.bool (smB (cI X) (cI L))))) [(.row (cI X) 3 1)] (bw v 1 eb ec))):=by
 have hcl_X:=cI_len X
 have hcl_L:=cI_len L
 have ghqsa7_1:=eqI_true hqsa7_1
 exact Hd.goes_loopA (id:=0) (by kernel_rfl) (by kernel_rfl) (fun i:{i:Nat // i≤X.length∧∀ j,j < i→intAt (cI X) j=intAt (cI L) j}=>⟨[(0,(.slu 0 0 (X.length) 0)),(1,(.xl (z) (L.length) 1 (cI L))),(5,(.v (.int .i64 ((i.1:Nat):Int))))],[],1,[(0,(.row (cI X) 3 1))]⟩) (fun i:{i:Nat // i≤X.length∧∀ j,j < i→intAt (cI X) j=intAt (cI L) j}=>X.length - i.1) (fun ix_ hs=>sa_17 z X L hX hqsa7_1 ix_.1 ix_.2.1 ix_.2.2 v eb ec hs) ⟨0,Nat.zero_le _,(fun j hj=>by omega)⟩ hs
theorem sa_14 (z:Value) (X L:List Int) (hX:X.length≤1000) (hqsa7_1:(eqI ((X.length:Nat):Int) ((L.length:Nat):Int))=true) (v:BaseW) (eb:Nat→Option Nat) (ec:Nat→Nat) (hs:List Nat):Goes Try.prog 26 saK12 (⟨[(0,(.slu 0 0 (X.length) 0)),(1,(.xl (z) (L.length) 1 (cI L))),(5,(.v (.int .i64 (.ofNat 0))))],[],1,[(0,(.row (cI X) 3 1))]⟩) (BaseW.H (bw v 1 eb ec) hs) (Hd.AfterN Try.prog 26 saK9 (bw v 1 eb ec) (OutM Try.prog Try.f20 26 ((.v (.bool (smB (cI X) (cI L))))) [(.row (cI X) 3 1)] (bw v 1 eb ec))):=by
 exact sa_15 z X L hX hqsa7_1 v eb ec hs
theorem sa_11 (z:Value) (X L:List Int) (hX:X.length≤1000) (hqsa7_1:(eqI ((X.length:Nat):Int) ((L.length:Nat):Int))=true) (v:BaseW) (eb:Nat→Option Nat) (ec:Nat→Nat) (hs:List Nat):Goes Try.prog 26 saK10 (⟨[(0,(.slu 0 0 (X.length) 0)),(1,(.xl (z) (L.length) 1 (cI L)))],[],1,[(0,(.row (cI X) 3 1))]⟩) (BaseW.H (bw v 1 eb ec) hs) (Hd.AfterN Try.prog 26 saK9 (bw v 1 eb ec) (OutM Try.prog Try.f20 26 ((.v (.bool (smB (cI X) (cI L))))) [(.row (cI X) 3 1)] (bw v 1 eb ec))):=by
 have hcl_X:=cI_len X
 have hcl_L:=cI_len L
 have ghqsa7_1:=eqI_true hqsa7_1
 refine Hd.goes_seqA (by kernel_rfl) ?_
 exact goes_leafA isN_e (goes_told Try.checked.mixed (known_none) 200 (T':=⟨[(0,(.slu 0 0 (X.length) 0)),(1,(.xl (z) (L.length) 1 (cI L))),(5,(.v (.int .i64 (.ofNat 0))))],[],1,[(0,(.row (cI X) 3 1))]⟩) (e:=.normal) (ps:=[]) [.go] (by kernel_rfl) (by kernel_rfl) trivial rfl) (Hd.en_n (sa_14 z X L hX hqsa7_1 v eb ec hs))
theorem sa_8 (z:Value) (X L:List Int) (hX:X.length≤1000) (hqsa7_1:(eqI ((X.length:Nat):Int) ((L.length:Nat):Int))=true) (v:BaseW) (eb:Nat→Option Nat) (ec:Nat→Nat) (hs:List Nat):Goes Try.prog 26 saK6 (⟨[(0,(.slu 0 0 (X.length) 0)),(1,(.xl (z) (L.length) 1 (cI L)))],[],1,[(0,(.row (cI X) 3 1))]⟩) (BaseW.H (bw v 1 eb ec) hs) (OutM Try.prog Try.f20 26 ((.v (.bool (smB (cI X) (cI L))))) [(.row (cI X) 3 1)] (bw v 1 eb ec)):=by
 exact Hd.goes_seqA (by kernel_rfl) (sa_11 z X L hX hqsa7_1 v eb ec hs)
theorem sa_5 (z:Value) (X L:List Int) (hX:X.length≤1000) (v:BaseW) (eb:Nat→Option Nat) (ec:Nat→Nat) (hs:List Nat):Goes Try.prog 26 saK3 (⟨[(0,(.slu 0 0 (X.length) 0)),(1,(.xl (z) (L.length) 1 (cI L)))],[],1,[(0,(.row (cI X) 3 1))]⟩) (BaseW.H (bw v 1 eb ec) hs) (OutM Try.prog Try.f20 26 ((.v (.bool (smB (cI X) (cI L))))) [(.row (cI X) 3 1)] (bw v 1 eb ec)):=by
 have hcl_X:=cI_len X
 have hcl_L:=cI_len L
 refine Hd.goes_seqA (by kernel_rfl) ?_
 rcases Bool.eq_false_or_eq_true (eqI ((X.length:Nat):Int) ((L.length:Nat):Int)) with hqsa7_1 | hqsa7_1
 ·skip
  have ghqsa7_1:=eqI_true hqsa7_1
  exact goes_leafA isN_e (goes_told Try.checked.mixed (known_none) 200 (T':=⟨[(0,(.slu 0 0 (X.length) 0)),(1,(.xl (z) (L.length) 1 (cI L)))],[],1,[(0,(.row (cI X) 3 1))]⟩) (e:=.normal) (ps:=[(!eqI ((X.length:Nat):Int) ((L.length:Nat):Int))=false]) [.go,.go,.go,.go,.go,.b false] (by kernel_rfl) (by kernel_rfl) ⟨(by rw [hqsa7_1]; rfl),trivial⟩ rfl) (Hd.en_n (sa_8 z X L hX hqsa7_1 v eb ec hs))
 ·skip
  have ghqsa7_1:=eqI_false hqsa7_1
  exact goes_leafA isR_e (goes_told Try.checked.mixed (known_none) 200 (T':=⟨[(4,(.v (.bool .false)))],[],1,[(0,(.row (cI X) 3 1))]⟩) (e:=.ret) (ps:=[(!eqI ((X.length:Nat):Int) ((L.length:Nat):Int))=true]) [.go,.go,.go,.go,.go,.b true,.go] (by kernel_rfl) (by kernel_rfl) ⟨(by rw [hqsa7_1]; rfl),trivial⟩ rfl) (Hd.en_o (by intro h; cases h) (en_eqM (r:=(.v (.bool .false))) (ys:=[(.row (cI X) 3 1)]) (by rw [sm_len (by omega)]) (by rfl) (en_retM (by kernel_rfl) (by kernel_rfl) rfl (.inr rfl))))
theorem sa_2 (z:Value) (X L:List Int) (hX:X.length≤1000) (v:BaseW) (eb:Nat→Option Nat) (ec:Nat→Nat) (hs:List Nat):Goes Try.prog 26 saK1 (⟨[(0,(.slu 0 0 X.length 0)),(1,(.xl z L.length 1 (cI L)))],[],1,[(0,(.row (cI X) 3 1))]⟩) (BaseW.H (bw v 1 eb ec) hs) (OutM Try.prog Try.f20 26 ((.v (.bool (smB (cI X) (cI L))))) [(.row (cI X) 3 1)] (bw v 1 eb ec)):=by
 have hcl_X:=cI_len X
 have hcl_L:=cI_len L
 refine Hd.goes_seqA (by kernel_rfl) ?_
 exact goes_leafA isN_e (goes_told Try.checked.mixed (known_none) 200 (T':=⟨[(0,(.slu 0 0 (X.length) 0)),(1,(.xl (z) (L.length) 1 (cI L)))],[],1,[(0,(.row (cI X) 3 1))]⟩) (e:=.normal) (ps:=[]) [.go] (by kernel_rfl) (by kernel_rfl) trivial rfl) (Hd.en_n (sa_5 z X L hX v eb ec hs))
theorem same_g (z:Value) (X L:List Int) (hX:X.length≤1000):GivesM Try.prog 20 [(.slu 0 0 X.length 0),(.xl z L.length 1 (cI L))] [(.row (cI X) 3 1)] ((.v (.bool (smB (cI X) (cI L))))) [(.row (cI X) 3 1)] :=
 givesM_parts 26 (by kernel_rfl) Try.func20 (by kernel_rfl) (by kernel_rfl) (by kernel_rfl) (fun v eb ec=>goes_less (by kernel_rfl) (by kernel_rfl) (by kernel_rfl) (by kernel_rfl) (sa_2 z X L hX v eb ec []))
end
end Go.Proofs.Ytmankoikpadkpaa
