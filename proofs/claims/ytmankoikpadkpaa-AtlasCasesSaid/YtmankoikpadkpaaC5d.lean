import Derived.Test.YtmankoikpadkpaaC5a
set_option maxHeartbeats 4000000
set_option linter.all false
/- Cases of the reference. -/
namespace Go.Proofs.Ytmankoikpadkpaa
open Go Ev
noncomputable section
noncomputable def rgaK1:Code:=bodyC Try.f22
noncomputable def rgaK3:Code:=tlC rgaK1
noncomputable def rgaK6:Code:=tlC rgaK3
noncomputable def rgaK9:Code:=tlC rgaK6
noncomputable def rgaK12:Code:=tlC rgaK9
noncomputable def rgaK13:Code:=(hdC rgaK9)
noncomputable def rgaK15:Code:=tlC rgaK13
noncomputable def rgaK19:Code:=loopC rgaK15
noncomputable def rgaK23:Code:=tlC rgaK12
noncomputable def rgaK26:Code:=tlC rgaK23
noncomputable def rgaK29:Code:=tlC rgaK26
noncomputable def rgaK30:Code:=(hdC rgaK26)
noncomputable def rgaK32:Code:=tlC rgaK30
noncomputable def rgaK36:Code:=loopC rgaK32
theorem rga_39 (y:Value) (R:List (Value×List Int)) (z:Value) (p k:Nat) (L:List Int) (hR:(k + 1)=R.length) (hL:L.length=k + 1) (hE:plE ((p:Nat):Int) (cRw R) (k + 1)=0) (hS:okS (cI L) L.length=true) (h0:(gotL (recM (cRw R) (k + 1) L) (1 + 2 * p)).length=0) (hqrga7_1:(eqI (plE (((p:Nat):Int)) (cRw R) (k + 1)) 0)=true) (hqrga10_1:(eqI ((L.length:Nat):Int) ((k + 1:Nat):Int))=true) (h0b:∀ j,j < (L.length)→seenAt (cI L) j) (hqrga21_1:(ltI ((L.length:Nat):Int) ((L.length:Nat):Int))=false) (h2b:True) (hqrga38_1:(ltI (((1 + 2 * p):Nat):Int) ((1 + 2 * p:Nat):Int))=false) (v:BaseW) (eb:Nat→Option Nat) (ec:Nat→Nat) (hs:List Nat):Goes Try.prog 63 rgaK29 (⟨[(7,(.v (Value.slice none 0 0)))],[],2,[]⟩) (BaseW.H (bw v 0 eb ec) hs) (OutM Try.prog Try.f22 63 ((.tup [.v (.slice none 0 0),.v (.int .i64 0)])) [] (bw v 0 eb ec)):=by
 have hcl_L:=cI_len L
 have hp:=(plE_zero hE).2.1
 have hk:=(plE_zero hE).1
 have ghqrga7_1:=eqI_true hqrga7_1
 have ghqrga10_1:=eqI_true hqrga10_1
 have ghqrga21_1:=ltI_false hqrga21_1
 have ghqrga38_1:=ltI_false hqrga38_1
 exact goes_leafA isR_e (goes_cut Try.checked.mixed (known_rc1) 200 (T':=⟨[(4,(.v (Value.slice none 0 0))),(5,(.v (.int .i64 (.ofNat 0))))],[],0,[]⟩) (e:=.ret) (m:=2) (ps:=[]) [.go,.go,.go] (by kernel_rfl) (by kernel_rfl) trivial rfl (by show 0≤2; decide) ⟨⟨nb_v _,nb_v _,trivial⟩,trivial,rfl⟩ (by show 0≤0; decide)) (en_eqM (r:=(.tup [(.v (Value.slice none 0 0)),(.v (.int .i64 (.ofNat 0)))])) (ys:=[]) (by rfl) (by rfl) (en_retM (by kernel_rfl) (by kernel_rfl) rfl (.inr rfl)))
theorem rga_37 (y:Value) (R:List (Value×List Int)) (z:Value) (p k:Nat) (L:List Int) (hR:(k + 1)=R.length) (hL:L.length=k + 1) (hE:plE ((p:Nat):Int) (cRw R) (k + 1)=0) (hS:okS (cI L) L.length=true) (h0:(gotL (recM (cRw R) (k + 1) L) (1 + 2 * p)).length=0) (hqrga7_1:(eqI (plE (((p:Nat):Int)) (cRw R) (k + 1)) 0)=true) (hqrga10_1:(eqI ((L.length:Nat):Int) ((k + 1:Nat):Int))=true) (h0b:∀ j,j < (L.length)→seenAt (cI L) j) (hqrga21_1:(ltI ((L.length:Nat):Int) ((L.length:Nat):Int))=false) (i:Nat) (hi1:i≤(1 + 2 * p)) (hi2:True) (v:BaseW) (eb:Nat→Option Nat) (ec:Nat→Nat) (hs:List Nat):Goes Try.prog 63 rgaK36 (⟨[(1,(.xl (z) (L.length) 1 (cI L))),(2,(.ptr 0 0)),(7,(.v (Value.slice none 0 0))),(8,(.slu 1 0 (1 + 2 * p) 0)),(9,(.v (.int .i64 ((i:Nat):Int))))],[],2,[(0,(.cells [(.v (.int .i64 (((p:Nat):Int)))),(.xl (y) (k + 1) 1 (cRw R))] 24)),(1,(.row (cR (casL (1 + 2 * p))) 26 2))]⟩) (BaseW.H (bw v 0 eb ec) hs) (Hd.StepC Try.prog 63 2 (fun i:{i:Nat // i≤(1 + 2 * p)∧True}=>⟨[(1,(.xl (z) (L.length) 1 (cI L))),(2,(.ptr 0 0)),(7,(.v (Value.slice none 0 0))),(8,(.slu 1 0 (1 + 2 * p) 0)),(9,(.v (.int .i64 ((i.1:Nat):Int))))],[],2,[(0,(.cells [(.v (.int .i64 (((p:Nat):Int)))),(.xl (y) (k + 1) 1 (cRw R))] 24)),(1,(.row (cR (casL (1 + 2 * p))) 26 2))]⟩) (fun i:{i:Nat // i≤(1 + 2 * p)∧True}=>(1 + 2 * p) - i.1) rgaK29 (bw v 0 eb ec) (OutM Try.prog Try.f22 63 ((.tup [.v (.slice none 0 0),.v (.int .i64 0)])) [] (bw v 0 eb ec)) (⟨i,hi1,hi2⟩:{i:Nat // i≤(1 + 2 * p)∧True})):=by
 have hcl_L:=cI_len L
 have hp:=(plE_zero hE).2.1
 have hk:=(plE_zero hE).1
 have ghqrga7_1:=eqI_true hqrga7_1
 have ghqrga10_1:=eqI_true hqrga10_1
 have ghqrga21_1:=ltI_false hqrga21_1
 rcases Bool.eq_false_or_eq_true (ltI ((i:Nat):Int) ((1 + 2 * p:Nat):Int)) with hqrga38_1 | hqrga38_1
 ·skip
  have ghqrga38_1:=ltI_true hqrga38_1
  rcases Bool.eq_false_or_eq_true (smB (cI (tabL (rv (cRw R) (intAt (cR (casL (1 + 2 * p))) (0 + i * 2 + 0)) (intAt (cR (casL (1 + 2 * p))) (0 + i * 2 + 1))) (k + 1))) (cI L)) with hqrga38_2 | hqrga38_2
  ·skip
   exfalso
   have h9:=got_ct (hit_of hL (show i < 1 + 2 * p by omega) hqrga38_2) rfl
   have h8:=got_mono (recM (cRw R) (k + 1) L) (show i + 1≤1 + 2 * p by omega)
   omega
  ·skip
   exact goes_leafA isN_e (goes_cut Try.checked.mixed (known_rc1) 200 (T':=⟨[(1,(.xl (z) (L.length) 1 (cI L))),(2,(.ptr 0 0)),(7,(.v (Value.slice none 0 0))),(8,(.slu 1 0 (1 + 2 * p) 0)),(9,(.v (.int .i64 (((i + 1):Nat):Int))))],[],2,[(0,(.cells [(.v (.int .i64 (((p:Nat):Int)))),(.xl (y) (k + 1) 1 (cRw R))] 24)),(1,(.row (cR (casL (1 + 2 * p))) 26 2))]⟩) (e:=.normal) (m:=3) (ps:=[ltI ((i:Nat):Int) ((1 + 2 * p:Nat):Int)=true,i < 1 + 2 * p,loadL Try.prog (cR (casL (1 + 2 * p))) (0 + i * 2) 26=some (AV.agg [AV.v (Value.int IntKind.i64 (intAt (cR (casL (1 + 2 * p))) (0 + i * 2 + 0))),AV.v (Value.int IntKind.i64 (intAt (cR (casL (1 + 2 * p))) (0 + i * 2 + 1)))]),FreeL (cRw R),0 < k + 1∧IsR (k + 1) (cRw R),plE (((p:Nat):Int)) (cRw R) (k + 1)=0,caB (((p:Nat):Int)) (intAt (cR (casL (1 + 2 * p))) (0 + i * 2 + 0)) (intAt (cR (casL (1 + 2 * p))) (0 + i * 2 + 1))=true,FreeL (cI L),3=3∧IsI 1 (k + 1) (cI (tabL (rv (cRw R) (intAt (cR (casL (1 + 2 * p))) (0 + i * 2 + 0)) (intAt (cR (casL (1 + 2 * p))) (0 + i * 2 + 1))) (k + 1))),IsI 1 L.length (cI L),k + 1≤1000,smB (cI (tabL (rv (cRw R) (intAt (cR (casL (1 + 2 * p))) (0 + i * 2 + 0)) (intAt (cR (casL (1 + 2 * p))) (0 + i * 2 + 1))) (k + 1))) (cI L)=false,inR IntKind.i64 (((i:Nat):Int) + 1)]) [.go,.go,.go,.go,.b true,.go,.go,.go,.sym,.sym,.go,.b false,.go,.go,.go] (by kernel_rfl) (by kernel_rfl) ⟨hqrga38_1,(by omega),(by rw [Nat.zero_add]; exact cas_load (by rw [cas_len]; omega)),(freeL_plainR R),⟨by omega,R,rfl,hR⟩,hE,(cas_c (i:=i) rfl (by omega) (by omega)),(freeL_plain (cI_plain _)),⟨rfl,rfl,_,rfl,(tabL_len _ _).symm⟩,⟨rfl,L,rfl,rfl⟩,(by omega),hqrga38_2,(by show -9223372036854775808≤_∧_≤9223372036854775807; constructor <;> omega),trivial⟩ rfl (by show 2≤3; decide) ⟨⟨nb_xl (cI_plain L),nb_ptr (by show 0 < 2; decide),nb_v _,nb_slu (by show 1 < 2; decide),nb_v _,trivial⟩,⟨⟨by show 0 < 2; decide,nbb_cells (nb_cons (nb_v _) (nb_cons (nb_free (freeL_xl (freeL_plainR _))) (fun _ hz=>absurd hz List.not_mem_nil)))⟩,⟨by show 1 < 2; decide,nbb_rowP (cR_plain _)⟩,trivial⟩,rfl⟩ (by show 0≤2; decide)) (Hd.en_on (⟨i + 1,by omega,trivial⟩) (by show (1 + 2 * p) - (i + 1) < (1 + 2 * p) - i; omega) rfl)
 ·skip
  have ghqrga38_1:=ltI_false hqrga38_1
  obtain rfl:i=(1 + 2 * p):=by omega
  exact goes_leafA isX_e (goes_told Try.checked.mixed (known_rc1) 200 (T':=⟨[(7,(.v (Value.slice none 0 0)))],[],2,[]⟩) (e:=.exit 2) (ps:=[ltI (((1 + 2 * p):Nat):Int) ((1 + 2 * p:Nat):Int)=false]) [.go,.go,.go,.go,.b false] (by kernel_rfl) (by kernel_rfl) ⟨hqrga38_1,trivial⟩ rfl) (Hd.en_sx (rga_39 y R z p k L hR hL hE hS h0 hqrga7_1 hqrga10_1 h0b hqrga21_1 hi2  hqrga38_1 v eb ec hs))
theorem rga_35 (y:Value) (R:List (Value×List Int)) (z:Value) (p k:Nat) (L:List Int) (hR:(k + 1)=R.length) (hL:L.length=k + 1) (hE:plE ((p:Nat):Int) (cRw R) (k + 1)=0) (hS:okS (cI L) L.length=true) (h0:(gotL (recM (cRw R) (k + 1) L) (1 + 2 * p)).length=0) (hqrga7_1:(eqI (plE (((p:Nat):Int)) (cRw R) (k + 1)) 0)=true) (hqrga10_1:(eqI ((L.length:Nat):Int) ((k + 1:Nat):Int))=true) (h0b:∀ j,j < (L.length)→seenAt (cI L) j) (hqrga21_1:(ltI ((L.length:Nat):Int) ((L.length:Nat):Int))=false) (v:BaseW) (eb:Nat→Option Nat) (ec:Nat→Nat) (hs:List Nat):Goes Try.prog 63 rgaK32 (⟨[(1,(.xl (z) (L.length) 1 (cI L))),(2,(.ptr 0 0)),(7,(.v (Value.slice none 0 0))),(8,(.slu 1 0 (1 + 2 * p) 0)),(9,(.v (.int .i64 (.ofNat 0))))],[],2,[(0,(.cells [(.v (.int .i64 (((p:Nat):Int)))),(.xl (y) (k + 1) 1 (cRw R))] 24)),(1,(.row (cR (casL (1 + 2 * p))) 26 2))]⟩) (BaseW.H (bw v 0 eb ec) hs) (Hd.AfterN Try.prog 63 rgaK29 (bw v 0 eb ec) (OutM Try.prog Try.f22 63 ((.tup [.v (.slice none 0 0),.v (.int .i64 0)])) [] (bw v 0 eb ec))):=by
 have hcl_L:=cI_len L
 have hp:=(plE_zero hE).2.1
 have hk:=(plE_zero hE).1
 have ghqrga7_1:=eqI_true hqrga7_1
 have ghqrga10_1:=eqI_true hqrga10_1
 have ghqrga21_1:=ltI_false hqrga21_1
 exact Hd.goes_loopA (id:=2) (by kernel_rfl) (by kernel_rfl) (fun i:{i:Nat // i≤(1 + 2 * p)∧True}=>⟨[(1,(.xl (z) (L.length) 1 (cI L))),(2,(.ptr 0 0)),(7,(.v (Value.slice none 0 0))),(8,(.slu 1 0 (1 + 2 * p) 0)),(9,(.v (.int .i64 ((i.1:Nat):Int))))],[],2,[(0,(.cells [(.v (.int .i64 (((p:Nat):Int)))),(.xl (y) (k + 1) 1 (cRw R))] 24)),(1,(.row (cR (casL (1 + 2 * p))) 26 2))]⟩) (fun i:{i:Nat // i≤(1 + 2 * p)∧True}=>(1 + 2 * p) - i.1) (fun ix_ hs=>rga_37 y R z p k L hR hL hE hS h0 hqrga7_1 hqrga10_1 h0b hqrga21_1 ix_.1 ix_.2.1 ix_.2.2 v eb ec hs) ⟨0,Nat.zero_le _,trivial⟩ hs
theorem rga_34 (y:Value) (R:List (Value×List Int)) (z:Value) (p k:Nat) (L:List Int) (hR:(k + 1)=R.length) (hL:L.length=k + 1) (hE:plE ((p:Nat):Int) (cRw R) (k + 1)=0) (hS:okS (cI L) L.length=true) (h0:(gotL (recM (cRw R) (k + 1) L) (1 + 2 * p)).length=0) (hqrga7_1:(eqI (plE (((p:Nat):Int)) (cRw R) (k + 1)) 0)=true) (hqrga10_1:(eqI ((L.length:Nat):Int) ((k + 1:Nat):Int))=true) (h0b:∀ j,j < (L.length)→seenAt (cI L) j) (hqrga21_1:(ltI ((L.length:Nat):Int) ((L.length:Nat):Int))=false) (v:BaseW) (eb:Nat→Option Nat) (ec:Nat→Nat) (hs:List Nat):Goes Try.prog 63 rgaK32 (⟨[(1,(.xl (z) (L.length) 1 (cI L))),(2,(.ptr 0 0)),(7,(.v (Value.slice none 0 0))),(8,(.slu 1 0 (1 + 2 * p) 0)),(9,(.v (.int .i64 (.ofNat 0))))],[],2,[(0,(.cells [(.v (.int .i64 (((p:Nat):Int)))),(.xl (y) (k + 1) 1 (cRw R))] 24)),(1,(.row (cR (casL (1 + 2 * p))) 26 2))]⟩) (BaseW.H (bw v 0 eb ec) hs) (Hd.AfterN Try.prog 63 rgaK29 (bw v 0 eb ec) (OutM Try.prog Try.f22 63 ((.tup [.v (.slice none 0 0),.v (.int .i64 0)])) [] (bw v 0 eb ec))):=by
 exact rga_35 y R z p k L hR hL hE hS h0 hqrga7_1 hqrga10_1 h0b hqrga21_1 v eb ec hs
theorem rga_31 (y:Value) (R:List (Value×List Int)) (z:Value) (p k:Nat) (L:List Int) (hR:(k + 1)=R.length) (hL:L.length=k + 1) (hE:plE ((p:Nat):Int) (cRw R) (k + 1)=0) (hS:okS (cI L) L.length=true) (h0:(gotL (recM (cRw R) (k + 1) L) (1 + 2 * p)).length=0) (hqrga7_1:(eqI (plE (((p:Nat):Int)) (cRw R) (k + 1)) 0)=true) (hqrga10_1:(eqI ((L.length:Nat):Int) ((k + 1:Nat):Int))=true) (h0b:∀ j,j < (L.length)→seenAt (cI L) j) (hqrga21_1:(ltI ((L.length:Nat):Int) ((L.length:Nat):Int))=false) (v:BaseW) (eb:Nat→Option Nat) (ec:Nat→Nat) (hs:List Nat):Goes Try.prog 63 rgaK30 (⟨[(1,(.xl (z) (L.length) 1 (cI L))),(2,(.ptr 0 0)),(7,(.v (Value.slice none 0 0))),(8,(.slu 1 0 (1 + 2 * p) 0))],[],2,[(0,(.cells [(.v (.int .i64 (((p:Nat):Int)))),(.xl (y) (k + 1) 1 (cRw R))] 24)),(1,(.row (cR (casL (1 + 2 * p))) 26 2))]⟩) (BaseW.H (bw v 0 eb ec) hs) (Hd.AfterN Try.prog 63 rgaK29 (bw v 0 eb ec) (OutM Try.prog Try.f22 63 ((.tup [.v (.slice none 0 0),.v (.int .i64 0)])) [] (bw v 0 eb ec))):=by
 have hcl_L:=cI_len L
 have hp:=(plE_zero hE).2.1
 have hk:=(plE_zero hE).1
 have ghqrga7_1:=eqI_true hqrga7_1
 have ghqrga10_1:=eqI_true hqrga10_1
 have ghqrga21_1:=ltI_false hqrga21_1
 refine Hd.goes_seqA (by kernel_rfl) ?_
 exact goes_leafA isN_e (goes_told Try.checked.mixed (known_rc1) 200 (T':=⟨[(1,(.xl (z) (L.length) 1 (cI L))),(2,(.ptr 0 0)),(7,(.v (Value.slice none 0 0))),(8,(.slu 1 0 (1 + 2 * p) 0)),(9,(.v (.int .i64 (.ofNat 0))))],[],2,[(0,(.cells [(.v (.int .i64 (((p:Nat):Int)))),(.xl (y) (k + 1) 1 (cRw R))] 24)),(1,(.row (cR (casL (1 + 2 * p))) 26 2))]⟩) (e:=.normal) (ps:=[]) [.go] (by kernel_rfl) (by kernel_rfl) trivial rfl) (Hd.en_n (rga_34 y R z p k L hR hL hE hS h0 hqrga7_1 hqrga10_1 h0b hqrga21_1 v eb ec hs))
theorem rga_28 (y:Value) (R:List (Value×List Int)) (z:Value) (p k:Nat) (L:List Int) (hR:(k + 1)=R.length) (hL:L.length=k + 1) (hE:plE ((p:Nat):Int) (cRw R) (k + 1)=0) (hS:okS (cI L) L.length=true) (h0:(gotL (recM (cRw R) (k + 1) L) (1 + 2 * p)).length=0) (hqrga7_1:(eqI (plE (((p:Nat):Int)) (cRw R) (k + 1)) 0)=true) (hqrga10_1:(eqI ((L.length:Nat):Int) ((k + 1:Nat):Int))=true) (h0b:∀ j,j < (L.length)→seenAt (cI L) j) (hqrga21_1:(ltI ((L.length:Nat):Int) ((L.length:Nat):Int))=false) (v:BaseW) (eb:Nat→Option Nat) (ec:Nat→Nat) (hs:List Nat):Goes Try.prog 63 rgaK26 (⟨[(1,(.xl (z) (L.length) 1 (cI L))),(2,(.ptr 0 0)),(7,(.v (Value.slice none 0 0))),(8,(.slu 1 0 (1 + 2 * p) 0))],[],2,[(0,(.cells [(.v (.int .i64 (((p:Nat):Int)))),(.xl (y) (k + 1) 1 (cRw R))] 24)),(1,(.row (cR (casL (1 + 2 * p))) 26 2))]⟩) (BaseW.H (bw v 0 eb ec) hs) (OutM Try.prog Try.f22 63 ((.tup [.v (.slice none 0 0),.v (.int .i64 0)])) [] (bw v 0 eb ec)):=by
 exact Hd.goes_seqA (by kernel_rfl) (rga_31 y R z p k L hR hL hE hS h0 hqrga7_1 hqrga10_1 h0b hqrga21_1 v eb ec hs)
theorem rga_25 (y:Value) (R:List (Value×List Int)) (z:Value) (p k:Nat) (L:List Int) (hR:(k + 1)=R.length) (hL:L.length=k + 1) (hE:plE ((p:Nat):Int) (cRw R) (k + 1)=0) (hS:okS (cI L) L.length=true) (h0:(gotL (recM (cRw R) (k + 1) L) (1 + 2 * p)).length=0) (hqrga7_1:(eqI (plE (((p:Nat):Int)) (cRw R) (k + 1)) 0)=true) (hqrga10_1:(eqI ((L.length:Nat):Int) ((k + 1:Nat):Int))=true) (h0b:∀ j,j < (L.length)→seenAt (cI L) j) (hqrga21_1:(ltI ((L.length:Nat):Int) ((L.length:Nat):Int))=false) (v:BaseW) (eb:Nat→Option Nat) (ec:Nat→Nat) (hs:List Nat):Goes Try.prog 63 rgaK23 (⟨[(1,(.xl (z) (L.length) 1 (cI L))),(2,(.ptr 0 0)),(7,(.v (Value.slice none 0 0)))],[],1,[(0,(.cells [(.v (.int .i64 (((p:Nat):Int)))),(.xl (y) (k + 1) 1 (cRw R))] 24))]⟩) (BaseW.H (bw v 0 eb ec) hs) (OutM Try.prog Try.f22 63 ((.tup [.v (.slice none 0 0),.v (.int .i64 0)])) [] (bw v 0 eb ec)):=by
 have hcl_L:=cI_len L
 have hp:=(plE_zero hE).2.1
 have hk:=(plE_zero hE).1
 have ghqrga7_1:=eqI_true hqrga7_1
 have ghqrga10_1:=eqI_true hqrga10_1
 have ghqrga21_1:=ltI_false hqrga21_1
 refine Hd.goes_seqA (by kernel_rfl) ?_
 exact goes_leafA isN_e (goes_told Try.checked.mixed (known_rc1) 200 (T':=⟨[(1,(.xl (z) (L.length) 1 (cI L))),(2,(.ptr 0 0)),(7,(.v (Value.slice none 0 0))),(8,(.slu 1 0 (1 + 2 * p) 0))],[],2,[(0,(.cells [(.v (.int .i64 (((p:Nat):Int)))),(.xl (y) (k + 1) 1 (cRw R))] 24)),(1,(.row (cR (casL (1 + 2 * p))) 26 2))]⟩) (e:=.normal) (ps:=[FreeL (cRw R),IsR (k + 1) (cRw R),plE (((p:Nat):Int)) (cRw R) (k + 1)=0]) [.go,.go] (by kernel_rfl) (by kernel_rfl) ⟨(freeL_plainR R),⟨R,rfl,hR⟩,hE,trivial⟩ rfl) (Hd.en_n (rga_28 y R z p k L hR hL hE hS h0 hqrga7_1 hqrga10_1 h0b hqrga21_1 v eb ec hs))
theorem rga_22 (y:Value) (R:List (Value×List Int)) (z:Value) (p k:Nat) (L:List Int) (hR:(k + 1)=R.length) (hL:L.length=k + 1) (hE:plE ((p:Nat):Int) (cRw R) (k + 1)=0) (hS:okS (cI L) L.length=true) (h0:(gotL (recM (cRw R) (k + 1) L) (1 + 2 * p)).length=0) (hqrga7_1:(eqI (plE (((p:Nat):Int)) (cRw R) (k + 1)) 0)=true) (hqrga10_1:(eqI ((L.length:Nat):Int) ((k + 1:Nat):Int))=true) (h0b:∀ j,j < (L.length)→seenAt (cI L) j) (hqrga21_1:(ltI ((L.length:Nat):Int) ((L.length:Nat):Int))=false) (v:BaseW) (eb:Nat→Option Nat) (ec:Nat→Nat) (hs:List Nat):Goes Try.prog 63 rgaK12 (⟨[(1,(.xl (z) (L.length) 1 (cI L))),(2,(.ptr 0 0))],[],1,[(0,(.cells [(.v (.int .i64 (((p:Nat):Int)))),(.xl (y) (k + 1) 1 (cRw R))] 24))]⟩) (BaseW.H (bw v 0 eb ec) hs) (OutM Try.prog Try.f22 63 ((.tup [.v (.slice none 0 0),.v (.int .i64 0)])) [] (bw v 0 eb ec)):=by
 have hcl_L:=cI_len L
 have hp:=(plE_zero hE).2.1
 have hk:=(plE_zero hE).1
 have ghqrga7_1:=eqI_true hqrga7_1
 have ghqrga10_1:=eqI_true hqrga10_1
 have ghqrga21_1:=ltI_false hqrga21_1
 refine Hd.goes_seqA (by kernel_rfl) ?_
 exact goes_leafA isN_e (goes_told Try.checked.mixed (known_rc1) 200 (T':=⟨[(1,(.xl (z) (L.length) 1 (cI L))),(2,(.ptr 0 0)),(7,(.v (Value.slice none 0 0)))],[],1,[(0,(.cells [(.v (.int .i64 (((p:Nat):Int)))),(.xl (y) (k + 1) 1 (cRw R))] 24))]⟩) (e:=.normal) (ps:=[]) [.go] (by kernel_rfl) (by kernel_rfl) trivial rfl) (Hd.en_n (rga_25 y R z p k L hR hL hE hS h0 hqrga7_1 hqrga10_1 h0b hqrga21_1 v eb ec hs))
theorem rga_20 (y:Value) (R:List (Value×List Int)) (z:Value) (p k:Nat) (L:List Int) (hR:(k + 1)=R.length) (hL:L.length=k + 1) (hE:plE ((p:Nat):Int) (cRw R) (k + 1)=0) (hS:okS (cI L) L.length=true) (h0:(gotL (recM (cRw R) (k + 1) L) (1 + 2 * p)).length=0) (hqrga7_1:(eqI (plE (((p:Nat):Int)) (cRw R) (k + 1)) 0)=true) (hqrga10_1:(eqI ((L.length:Nat):Int) ((k + 1:Nat):Int))=true) (i:Nat) (hi1:i≤L.length) (hi2:∀ j,j < i→seenAt (cI L) j) (v:BaseW) (eb:Nat→Option Nat) (ec:Nat→Nat) (hs:List Nat):Goes Try.prog 63 rgaK19 (⟨[(1,(.xl (z) (L.length) 1 (cI L))),(2,(.ptr 0 0)),(6,(.v (.int .i64 ((i:Nat):Int))))],[],1,[(0,(.cells [(.v (.int .i64 (((p:Nat):Int)))),(.xl (y) (k + 1) 1 (cRw R))] 24))]⟩) (BaseW.H (bw v 0 eb ec) hs) (Hd.StepC Try.prog 63 0 (fun i:{i:Nat // i≤L.length∧∀ j,j < i→seenAt (cI L) j}=>⟨[(1,(.xl (z) (L.length) 1 (cI L))),(2,(.ptr 0 0)),(6,(.v (.int .i64 ((i.1:Nat):Int))))],[],1,[(0,(.cells [(.v (.int .i64 (((p:Nat):Int)))),(.xl (y) (k + 1) 1 (cRw R))] 24))]⟩) (fun i:{i:Nat // i≤L.length∧∀ j,j < i→seenAt (cI L) j}=>L.length - i.1) rgaK12 (bw v 0 eb ec) (OutM Try.prog Try.f22 63 ((.tup [.v (.slice none 0 0),.v (.int .i64 0)])) [] (bw v 0 eb ec)) (⟨i,hi1,hi2⟩:{i:Nat // i≤L.length∧∀ j,j < i→seenAt (cI L) j})):=by
 have hcl_L:=cI_len L
 have hp:=(plE_zero hE).2.1
 have hk:=(plE_zero hE).1
 have ghqrga7_1:=eqI_true hqrga7_1
 have ghqrga10_1:=eqI_true hqrga10_1
 rcases Bool.eq_false_or_eq_true (ltI ((i:Nat):Int) ((L.length:Nat):Int)) with hqrga21_1 | hqrga21_1
 ·skip
  have ghqrga21_1:=ltI_true hqrga21_1
  rcases Bool.eq_false_or_eq_true (ltI (intAt (cI L) (i * 1)) (-1)) with hqrga21_2 | hqrga21_2
  ·skip
   have ghqrga21_2:=ltI_true hqrga21_2
   have hq:=okS_all.1 hS i (by omega)
   unfold seenAt at hq
   exfalso
   omega
  ·skip
   have ghqrga21_2:=ltI_false hqrga21_2
   rcases Bool.eq_false_or_eq_true (ltI 1 (intAt (cI L) (i * 1))) with hqrga21_3 | hqrga21_3
   ·skip
    have ghqrga21_3:=ltI_true hqrga21_3
    have hq:=okS_all.1 hS i (by omega)
    unfold seenAt at hq
    exfalso
    omega
   ·skip
    have ghqrga21_3:=ltI_false hqrga21_3
    exact goes_leafA isN_e (goes_told Try.checked.mixed (known_rc1) 200 (T':=⟨[(1,(.xl (z) (L.length) 1 (cI L))),(2,(.ptr 0 0)),(6,(.v (.int .i64 (((i + 1):Nat):Int))))],[],1,[(0,(.cells [(.v (.int .i64 (((p:Nat):Int)))),(.xl (y) (k + 1) 1 (cRw R))] 24))]⟩) (e:=.normal) (ps:=[ltI ((i:Nat):Int) ((L.length:Nat):Int)=true,i < L.length,loadL Try.prog (cI L) (i * 1) 3=some (AV.v (Value.int IntKind.i64 (intAt (cI L) (i * 1)))),ltI (intAt (cI L) (i * 1)) (-1)=false,false=false,false=false,i < L.length,false=false,loadL Try.prog (cI L) (i * 1) 3=some (AV.v (Value.int IntKind.i64 (intAt (cI L) (i * 1)))),false=false,ltI 1 (intAt (cI L) (i * 1))=false,inR IntKind.i64 (((i:Nat):Int) + 1)]) [.go,.go,.go,.go,.b true,.go,.go,.sym,.sym,.go,.go,.b false,.go,.b false,.go,.b false,.sym,.b false,.sym,.b false,.go,.go,.b false,.go,.go,.go] (by kernel_rfl) (by kernel_rfl) ⟨hqrga21_1,(by omega),(by rw [Nat.mul_one]; exact cI_load (by omega) 3 (Try.underlying3) rfl),hqrga21_2,rfl,rfl,(by omega),rfl,(by rw [Nat.mul_one]; exact cI_load (by omega) 3 (Try.underlying3) rfl),rfl,hqrga21_3,(by show -9223372036854775808≤_∧_≤9223372036854775807; constructor <;> omega),trivial⟩ rfl) (Hd.en_on (⟨i + 1,by omega,(seen_nx hi2 (by unfold seenAt; omega))⟩) (by show L.length - (i + 1) < L.length - i; omega) rfl)
 ·skip
  have ghqrga21_1:=ltI_false hqrga21_1
  obtain rfl:i=L.length:=by omega
  exact goes_leafA isX_e (goes_told Try.checked.mixed (known_rc1) 200 (T':=⟨[(1,(.xl (z) (L.length) 1 (cI L))),(2,(.ptr 0 0))],[],1,[(0,(.cells [(.v (.int .i64 (((p:Nat):Int)))),(.xl (y) (k + 1) 1 (cRw R))] 24))]⟩) (e:=.exit 0) (ps:=[ltI ((L.length:Nat):Int) ((L.length:Nat):Int)=false]) [.go,.go,.go,.go,.b false] (by kernel_rfl) (by kernel_rfl) ⟨hqrga21_1,trivial⟩ rfl) (Hd.en_sx (rga_22 y R z p k L hR hL hE hS h0 hqrga7_1 hqrga10_1 hi2  hqrga21_1 v eb ec hs))
theorem rga_18 (y:Value) (R:List (Value×List Int)) (z:Value) (p k:Nat) (L:List Int) (hR:(k + 1)=R.length) (hL:L.length=k + 1) (hE:plE ((p:Nat):Int) (cRw R) (k + 1)=0) (hS:okS (cI L) L.length=true) (h0:(gotL (recM (cRw R) (k + 1) L) (1 + 2 * p)).length=0) (hqrga7_1:(eqI (plE (((p:Nat):Int)) (cRw R) (k + 1)) 0)=true) (hqrga10_1:(eqI ((L.length:Nat):Int) ((k + 1:Nat):Int))=true) (v:BaseW) (eb:Nat→Option Nat) (ec:Nat→Nat) (hs:List Nat):Goes Try.prog 63 rgaK15 (⟨[(1,(.xl (z) (L.length) 1 (cI L))),(2,(.ptr 0 0)),(6,(.v (.int .i64 (.ofNat 0))))],[],1,[(0,(.cells [(.v (.int .i64 (((p:Nat):Int)))),(.xl (y) (k + 1) 1 (cRw R))] 24))]⟩) (BaseW.H (bw v 0 eb ec) hs) (Hd.AfterN Try.prog 63 rgaK12 (bw v 0 eb ec) (OutM Try.prog Try.f22 63 ((.tup [.v (.slice none 0 0),.v (.int .i64 0)])) [] (bw v 0 eb ec))):=by
 have hcl_L:=cI_len L
 have hp:=(plE_zero hE).2.1
 have hk:=(plE_zero hE).1
 have ghqrga7_1:=eqI_true hqrga7_1
 have ghqrga10_1:=eqI_true hqrga10_1
 exact Hd.goes_loopA (id:=0) (by kernel_rfl) (by kernel_rfl) (fun i:{i:Nat // i≤L.length∧∀ j,j < i→seenAt (cI L) j}=>⟨[(1,(.xl (z) (L.length) 1 (cI L))),(2,(.ptr 0 0)),(6,(.v (.int .i64 ((i.1:Nat):Int))))],[],1,[(0,(.cells [(.v (.int .i64 (((p:Nat):Int)))),(.xl (y) (k + 1) 1 (cRw R))] 24))]⟩) (fun i:{i:Nat // i≤L.length∧∀ j,j < i→seenAt (cI L) j}=>L.length - i.1) (fun ix_ hs=>rga_20 y R z p k L hR hL hE hS h0 hqrga7_1 hqrga10_1 ix_.1 ix_.2.1 ix_.2.2 v eb ec hs) ⟨0,Nat.zero_le _,(fun j hj=>by omega)⟩ hs
theorem rga_17 (y:Value) (R:List (Value×List Int)) (z:Value) (p k:Nat) (L:List Int) (hR:(k + 1)=R.length) (hL:L.length=k + 1) (hE:plE ((p:Nat):Int) (cRw R) (k + 1)=0) (hS:okS (cI L) L.length=true) (h0:(gotL (recM (cRw R) (k + 1) L) (1 + 2 * p)).length=0) (hqrga7_1:(eqI (plE (((p:Nat):Int)) (cRw R) (k + 1)) 0)=true) (hqrga10_1:(eqI ((L.length:Nat):Int) ((k + 1:Nat):Int))=true) (v:BaseW) (eb:Nat→Option Nat) (ec:Nat→Nat) (hs:List Nat):Goes Try.prog 63 rgaK15 (⟨[(1,(.xl (z) (L.length) 1 (cI L))),(2,(.ptr 0 0)),(6,(.v (.int .i64 (.ofNat 0))))],[],1,[(0,(.cells [(.v (.int .i64 (((p:Nat):Int)))),(.xl (y) (k + 1) 1 (cRw R))] 24))]⟩) (BaseW.H (bw v 0 eb ec) hs) (Hd.AfterN Try.prog 63 rgaK12 (bw v 0 eb ec) (OutM Try.prog Try.f22 63 ((.tup [.v (.slice none 0 0),.v (.int .i64 0)])) [] (bw v 0 eb ec))):=by
 exact rga_18 y R z p k L hR hL hE hS h0 hqrga7_1 hqrga10_1 v eb ec hs
theorem rga_14 (y:Value) (R:List (Value×List Int)) (z:Value) (p k:Nat) (L:List Int) (hR:(k + 1)=R.length) (hL:L.length=k + 1) (hE:plE ((p:Nat):Int) (cRw R) (k + 1)=0) (hS:okS (cI L) L.length=true) (h0:(gotL (recM (cRw R) (k + 1) L) (1 + 2 * p)).length=0) (hqrga7_1:(eqI (plE (((p:Nat):Int)) (cRw R) (k + 1)) 0)=true) (hqrga10_1:(eqI ((L.length:Nat):Int) ((k + 1:Nat):Int))=true) (v:BaseW) (eb:Nat→Option Nat) (ec:Nat→Nat) (hs:List Nat):Goes Try.prog 63 rgaK13 (⟨[(1,(.xl (z) (L.length) 1 (cI L))),(2,(.ptr 0 0))],[],1,[(0,(.cells [(.v (.int .i64 (((p:Nat):Int)))),(.xl (y) (k + 1) 1 (cRw R))] 24))]⟩) (BaseW.H (bw v 0 eb ec) hs) (Hd.AfterN Try.prog 63 rgaK12 (bw v 0 eb ec) (OutM Try.prog Try.f22 63 ((.tup [.v (.slice none 0 0),.v (.int .i64 0)])) [] (bw v 0 eb ec))):=by
 have hcl_L:=cI_len L
 have hp:=(plE_zero hE).2.1
 have hk:=(plE_zero hE).1
 have ghqrga7_1:=eqI_true hqrga7_1
 have ghqrga10_1:=eqI_true hqrga10_1
 refine Hd.goes_seqA (by kernel_rfl) ?_
 exact goes_leafA isN_e (goes_told Try.checked.mixed (known_rc1) 200 (T':=⟨[(1,(.xl (z) (L.length) 1 (cI L))),(2,(.ptr 0 0)),(6,(.v (.int .i64 (.ofNat 0))))],[],1,[(0,(.cells [(.v (.int .i64 (((p:Nat):Int)))),(.xl (y) (k + 1) 1 (cRw R))] 24))]⟩) (e:=.normal) (ps:=[]) [.go] (by kernel_rfl) (by kernel_rfl) trivial rfl) (Hd.en_n (rga_17 y R z p k L hR hL hE hS h0 hqrga7_1 hqrga10_1 v eb ec hs))
theorem rga_11 (y:Value) (R:List (Value×List Int)) (z:Value) (p k:Nat) (L:List Int) (hR:(k + 1)=R.length) (hL:L.length=k + 1) (hE:plE ((p:Nat):Int) (cRw R) (k + 1)=0) (hS:okS (cI L) L.length=true) (h0:(gotL (recM (cRw R) (k + 1) L) (1 + 2 * p)).length=0) (hqrga7_1:(eqI (plE (((p:Nat):Int)) (cRw R) (k + 1)) 0)=true) (hqrga10_1:(eqI ((L.length:Nat):Int) ((k + 1:Nat):Int))=true) (v:BaseW) (eb:Nat→Option Nat) (ec:Nat→Nat) (hs:List Nat):Goes Try.prog 63 rgaK9 (⟨[(1,(.xl (z) (L.length) 1 (cI L))),(2,(.ptr 0 0))],[],1,[(0,(.cells [(.v (.int .i64 (((p:Nat):Int)))),(.xl (y) (k + 1) 1 (cRw R))] 24))]⟩) (BaseW.H (bw v 0 eb ec) hs) (OutM Try.prog Try.f22 63 ((.tup [.v (.slice none 0 0),.v (.int .i64 0)])) [] (bw v 0 eb ec)):=by
 exact Hd.goes_seqA (by kernel_rfl) (rga_14 y R z p k L hR hL hE hS h0 hqrga7_1 hqrga10_1 v eb ec hs)
theorem rga_8 (y:Value) (R:List (Value×List Int)) (z:Value) (p k:Nat) (L:List Int) (hR:(k + 1)=R.length) (hL:L.length=k + 1) (hE:plE ((p:Nat):Int) (cRw R) (k + 1)=0) (hS:okS (cI L) L.length=true) (h0:(gotL (recM (cRw R) (k + 1) L) (1 + 2 * p)).length=0) (hqrga7_1:(eqI (plE (((p:Nat):Int)) (cRw R) (k + 1)) 0)=true) (v:BaseW) (eb:Nat→Option Nat) (ec:Nat→Nat) (hs:List Nat):Goes Try.prog 63 rgaK6 (⟨[(1,(.xl (z) (L.length) 1 (cI L))),(2,(.ptr 0 0))],[],1,[(0,(.cells [(.v (.int .i64 (((p:Nat):Int)))),(.xl (y) (k + 1) 1 (cRw R))] 24))]⟩) (BaseW.H (bw v 0 eb ec) hs) (OutM Try.prog Try.f22 63 ((.tup [.v (.slice none 0 0),.v (.int .i64 0)])) [] (bw v 0 eb ec)):=by
 have hcl_L:=cI_len L
 have hp:=(plE_zero hE).2.1
 have hk:=(plE_zero hE).1
 have ghqrga7_1:=eqI_true hqrga7_1
 refine Hd.goes_seqA (by kernel_rfl) ?_
 rcases Bool.eq_false_or_eq_true (eqI ((L.length:Nat):Int) ((k + 1:Nat):Int)) with hqrga10_1 | hqrga10_1
 ·skip
  have ghqrga10_1:=eqI_true hqrga10_1
  exact goes_leafA isN_e (goes_told Try.checked.mixed (known_rc1) 200 (T':=⟨[(1,(.xl (z) (L.length) 1 (cI L))),(2,(.ptr 0 0))],[],1,[(0,(.cells [(.v (.int .i64 (((p:Nat):Int)))),(.xl (y) (k + 1) 1 (cRw R))] 24))]⟩) (e:=.normal) (ps:=[(!eqI ((L.length:Nat):Int) ((k + 1:Nat):Int))=false]) [.go,.go,.go,.go,.go,.go,.b false] (by kernel_rfl) (by kernel_rfl) ⟨(by rw [hqrga10_1]; rfl),trivial⟩ rfl) (Hd.en_n (rga_11 y R z p k L hR hL hE hS h0 hqrga7_1 hqrga10_1 v eb ec hs))
 ·skip
  have ghqrga10_1:=eqI_false hqrga10_1
  exfalso
  omega
theorem rga_5 (y:Value) (R:List (Value×List Int)) (z:Value) (p k:Nat) (L:List Int) (hR:(k + 1)=R.length) (hL:L.length=k + 1) (hE:plE ((p:Nat):Int) (cRw R) (k + 1)=0) (hS:okS (cI L) L.length=true) (h0:(gotL (recM (cRw R) (k + 1) L) (1 + 2 * p)).length=0) (v:BaseW) (eb:Nat→Option Nat) (ec:Nat→Nat) (hs:List Nat):Goes Try.prog 63 rgaK3 (⟨[(1,(.xl (z) (L.length) 1 (cI L))),(2,(.ptr 0 0))],[],1,[(0,(.cells [(.v (.int .i64 (((p:Nat):Int)))),(.xl (y) (k + 1) 1 (cRw R))] 24))]⟩) (BaseW.H (bw v 0 eb ec) hs) (OutM Try.prog Try.f22 63 ((.tup [.v (.slice none 0 0),.v (.int .i64 0)])) [] (bw v 0 eb ec)):=by
 have hcl_L:=cI_len L
 have hp:=(plE_zero hE).2.1
 have hk:=(plE_zero hE).1
 refine Hd.goes_seqA (by kernel_rfl) ?_
 rcases Bool.eq_false_or_eq_true (eqI (plE (((p:Nat):Int)) (cRw R) (k + 1)) 0) with hqrga7_1 | hqrga7_1
 ·skip
  have ghqrga7_1:=eqI_true hqrga7_1
  exact goes_leafA isN_e (goes_told Try.checked.mixed (known_rc1) 200 (T':=⟨[(1,(.xl (z) (L.length) 1 (cI L))),(2,(.ptr 0 0))],[],1,[(0,(.cells [(.v (.int .i64 (((p:Nat):Int)))),(.xl (y) (k + 1) 1 (cRw R))] 24))]⟩) (e:=.normal) (ps:=[IsR (k + 1) (cRw R),(!eqI (plE (((p:Nat):Int)) (cRw R) (k + 1)) 0)=false]) [.go,.go,.b false] (by kernel_rfl) (by kernel_rfl) ⟨⟨R,rfl,hR⟩,(by rw [hqrga7_1]; rfl),trivial⟩ rfl) (Hd.en_n (rga_8 y R z p k L hR hL hE hS h0 hqrga7_1 v eb ec hs))
 ·skip
  have ghqrga7_1:=eqI_false hqrga7_1
  exact absurd hE (eqI_false hqrga7_1)
theorem rga_2 (y:Value) (R:List (Value×List Int)) (z:Value) (p k:Nat) (L:List Int) (hR:(k + 1)=R.length) (hL:L.length=k + 1) (hE:plE ((p:Nat):Int) (cRw R) (k + 1)=0) (hS:okS (cI L) L.length=true) (h0:(gotL (recM (cRw R) (k + 1) L) (1 + 2 * p)).length=0) (v:BaseW) (eb:Nat→Option Nat) (ec:Nat→Nat) (hs:List Nat):Goes Try.prog 63 rgaK1 (⟨[(0,(.agg [.v (.int .i64 ((p:Nat):Int)),.xl y (k + 1) 1 (cRw R)])),(1,(.xl z L.length 1 (cI L)))],[],0,[]⟩) (BaseW.H (bw v 0 eb ec) hs) (OutM Try.prog Try.f22 63 ((.tup [.v (.slice none 0 0),.v (.int .i64 0)])) [] (bw v 0 eb ec)):=by
 have hcl_L:=cI_len L
 have hp:=(plE_zero hE).2.1
 have hk:=(plE_zero hE).1
 refine Hd.goes_seqA (by kernel_rfl) ?_
 exact goes_leafA isN_e (goes_told Try.checked.mixed (known_rc1) 200 (T':=⟨[(1,(.xl (z) (L.length) 1 (cI L))),(2,(.ptr 0 0))],[],1,[(0,(.cells [(.v (.int .i64 (((p:Nat):Int)))),(.xl (y) (k + 1) 1 (cRw R))] 24))]⟩) (e:=.normal) (ps:=[]) [.go,.go,.go] (by kernel_rfl) (by kernel_rfl) trivial rfl) (Hd.en_n (rga_5 y R z p k L hR hL hE hS h0 v eb ec hs))
theorem rCases_a (y:Value) (R:List (Value×List Int)) (z:Value) (p k:Nat) (L:List Int) (hR:(k + 1)=R.length) (hL:L.length=k + 1) (hE:plE ((p:Nat):Int) (cRw R) (k + 1)=0) (hS:okS (cI L) L.length=true) (h0:(gotL (recM (cRw R) (k + 1) L) (1 + 2 * p)).length=0):GivesM Try.prog 22 [(.agg [.v (.int .i64 ((p:Nat):Int)),.xl y (k + 1) 1 (cRw R)]),(.xl z L.length 1 (cI L))] [] ((.tup [.v (.slice none 0 0),.v (.int .i64 0)])) [] :=
 givesM_parts 63 (by kernel_rfl) Try.func22 (by kernel_rfl) (by kernel_rfl) (by kernel_rfl) (fun v eb ec=>goes_less (by kernel_rfl) (by kernel_rfl) (by kernel_rfl) (by kernel_rfl) (rga_2 y R z p k L hR hL hE hS h0 v eb ec []))
end
end Go.Proofs.Ytmankoikpadkpaa
