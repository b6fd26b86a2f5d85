import Derived.Test.YtegmogadbnfbgaaF1
set_option maxHeartbeats 4000000
set_option linter.all false
/- What is known of functions of spectra. -/
namespace Go.Proofs.Ytegmogadbnfbgaa
open Go Ev
noncomputable section
theorem iRF2 {a:Int} (h : -9223372036854775808≤a) (k:a≤9223372036854775807):inR .i64 a:=⟨h,k⟩
def n8B (a0 a1 a2 a3 a4 a5 a6 a7 b0 b1 b2 b3 b4 b5 b6 b7 e:Int):Bool:=nr8 (fun i=>match i with | 0=>a0 | 1=>a1 | 2=>a2 | 3=>a3 | 4=>a4 | 5=>a5 | 6=>a6 | 7=>a7 | _=>0) (fun i=>match i with | 0=>b0 | 1=>b1 | 2=>b2 | 3=>b3 | 4=>b4 | 5=>b5 | 6=>b6 | 7=>b7 | _=>0) e
theorem n8B_eq {f g:Nat→Int} {e:Int}:n8B (f 0) (f 1) (f 2) (f 3) (f 4) (f 5) (f 6) (f 7) (g 0) (g 1) (g 2) (g 3) (g 4) (g 5) (g 6) (g 7) e=nr8 f g e:=by
 have key:∀ {p q:Prop},(p↔q)→@decide p (Classical.propDecidable _)=@decide q (Classical.propDecidable _):=fun h=>by rw [decide_eq_decide]; exact h
 refine key ⟨fun h b hb=>?_,fun h b hb=>?_⟩ <;> have h1:=h b hb <;> match b,hb,h1 with
 | 0,_,h1=>exact h1
 | 1,_,h1=>exact h1
 | 2,_,h1=>exact h1
 | 3,_,h1=>exact h1
 | 4,_,h1=>exact h1
 | 5,_,h1=>exact h1
 | 6,_,h1=>exact h1
 | 7,_,h1=>exact h1
theorem cRw_isI {R:List (Value×List Int)} {i:Nat} (h:i < R.length):IsI 1 (xlN (cRw R) (i * 1)) (xlC (cRw R) (i * 1)):=by
 rw [Nat.mul_one]
 exact ⟨rfl,rwL R i,cRw_c h,cRw_n h⟩
def afS:List AV→Option (Res1×List Prop):=fun vs =>
 match vs with
 | [.v a,.v b,.xl y n k c]=>match numV a,numV b with
  | some lo,some hi=>some (.val (.v (.bool (afB lo hi c n))),[IsI k n c,n≤1000])
  | _,_=>none
 | _=>none
def afO:OrcH:=extOrc 72 afS
theorem known_af:Known Try.prog (clsO afO):=known_ext (fun vs r ps h hp=>by
 unfold afS at h
 split at h
 ·split at h
  ·rename_i lo hi e1 e2
   cases h
   obtain ⟨⟨rfl,L,rfl,rfl⟩,h1,-⟩:=hp
   rw [numV_eq e1,numV_eq e2]
   exact ⟨extL_cons (ext_v _) (extL_cons (ext_v _) (extL_cons (ext_xl (extL_plain (cI_plain L))) extL_nil)),_,rfl,af_g _ L lo hi h1⟩
  ·cases h
 ·cases h)
def tkS:List AV→Option (Res1×List Prop):=fun vs =>
 match vs with
 | [.xl y n k c]=>some (.val (.agg [.v (.int .i64 (spA c n 0)),.v (.int .i64 (spA c n 1)),.v (.int .i64 (spA c n 2)),.v (.int .i64 (spA c n 3)),.v (.int .i64 (spA c n 4)),.v (.int .i64 (spA c n 5)),.v (.int .i64 (spA c n 6)),.v (.int .i64 (spA c n 7))]),[IsI k n c,1≤n,n≤8])
 | _=>none
def tkO:OrcH:=extOrc 70 tkS
theorem known_tk:Known Try.prog (clsO tkO):=known_ext (fun vs r ps h hp=>by
 unfold tkS at h
 split at h
 ·cases h
  obtain ⟨⟨rfl,L,rfl,rfl⟩,h1,h2,-⟩:=hp
  exact ⟨extL_cons (ext_xl (extL_plain (cI_plain L))) extL_nil,_,rfl,tk_g _ L h1 h2⟩
 ·cases h)
def neS:List AV→Option (Res1×List Prop):=fun vs =>
 match vs with
 | [.agg [.v x0,.v x1,.v x2,.v x3,.v x4,.v x5,.v x6,.v x7],.agg [.v y0,.v y1,.v y2,.v y3,.v y4,.v y5,.v y6,.v y7],.v x]=>match numV x0,numV x1,numV x2,numV x3,numV x4,numV x5,numV x6,numV x7,numV y0,numV y1,numV y2,numV y3,numV y4,numV y5,numV y6,numV y7,numV x with
  | some a0,some a1,some a2,some a3,some a4,some a5,some a6,some a7,some b0,some b1,some b2,some b3,some b4,some b5,some b6,some b7,some e=>some (.val (.v (.bool (n8B a0 a1 a2 a3 a4 a5 a6 a7 b0 b1 b2 b3 b4 b5 b6 b7 e))),[0≤e∧e≤1000,-1000000≤a0∧a0≤1000000,-1000000≤a1∧a1≤1000000,-1000000≤a2∧a2≤1000000,-1000000≤a3∧a3≤1000000,-1000000≤a4∧a4≤1000000,-1000000≤a5∧a5≤1000000,-1000000≤a6∧a6≤1000000,-1000000≤a7∧a7≤1000000])
  | _,_,_,_,_,_,_,_,_,_,_,_,_,_,_,_,_=>none
 | _=>none
def neO:OrcH:=extOrc 71 neS
theorem known_ne:Known Try.prog (clsO neO):=known_ext (fun vs r ps h hp=>by
 unfold neS at h
 split at h
 ·split at h
  ·rename_i a0 a1 a2 a3 a4 a5 a6 a7 b0 b1 b2 b3 b4 b5 b6 b7 e ea0 ea1 ea2 ea3 ea4 ea5 ea6 ea7 eb0 eb1 eb2 eb3 eb4 eb5 eb6 eb7 ee
   cases h
   obtain ⟨he,q0,q1,q2,q3,q4,q5,q6,q7,-⟩:=hp
   rw [numV_eq ea0,numV_eq ea1,numV_eq ea2,numV_eq ea3,numV_eq ea4,numV_eq ea5,numV_eq ea6,numV_eq ea7,numV_eq eb0,numV_eq eb1,numV_eq eb2,numV_eq eb3,numV_eq eb4,numV_eq eb5,numV_eq eb6,numV_eq eb7,numV_eq ee]
   exact ⟨extL_cons (ext_agg (extL_cons (ext_v _) (extL_cons (ext_v _) (extL_cons (ext_v _) (extL_cons (ext_v _) (extL_cons (ext_v _) (extL_cons (ext_v _) (extL_cons (ext_v _) (extL_cons (ext_v _) (extL_nil)))))))))) (extL_cons (ext_agg (extL_cons (ext_v _) (extL_cons (ext_v _) (extL_cons (ext_v _) (extL_cons (ext_v _) (extL_cons (ext_v _) (extL_cons (ext_v _) (extL_cons (ext_v _) (extL_cons (ext_v _) (extL_nil)))))))))) (extL_cons (ext_v _) extL_nil)),_,rfl,ne_g (fun i=>match i with | 0=>a0 | 1=>a1 | 2=>a2 | 3=>a3 | 4=>a4 | 5=>a5 | 6=>a6 | 7=>a7 | _=>0) (fun i=>match i with | 0=>b0 | 1=>b1 | 2=>b2 | 3=>b3 | 4=>b4 | 5=>b5 | 6=>b6 | 7=>b7 | _=>0) e (fun b=>by
    match b with
    | 0=>exact q0
    | 1=>exact q1
    | 2=>exact q2
    | 3=>exact q3
    | 4=>exact q4
    | 5=>exact q5
    | 6=>exact q6
    | 7=>exact q7
    | n + 8=>show (-1000000:Int)≤0∧(0:Int)≤1000000; omega) he⟩
  ·cases h
 ·cases h)
noncomputable def cpoK1:Code:=bodyC Try.f37
noncomputable def cpoK3:Code:=tlC cpoK1
noncomputable def cpoK6:Code:=tlC cpoK3
noncomputable def cpoK9:Code:=tlC cpoK6
noncomputable def cpoK10:Code:=(hdC cpoK6)
noncomputable def cpoK12:Code:=tlC cpoK10
noncomputable def cpoK16:Code:=loopC cpoK12
noncomputable def cpoK20:Code:=tlC cpoK9
noncomputable def cpoK21:Code:=(hdC cpoK9)
noncomputable def cpoK23:Code:=tlC cpoK21
noncomputable def cpoK27:Code:=loopC cpoK23
theorem cpo_30 (y:Value) (R:List (Value×List Int)) (e:Int) (hqcpo7_1:(ltI (((R.length:Nat):Int)) 1)=false) (hqcpo7_2:(ltI 12 ((R.length:Nat):Int))=false) (hqcpo7_3:(ltI (((xlN (cRw R) (0 * 1):Nat):Int)) 1)=false) (hqcpo7_4:(ltI 8 ((xlN (cRw R) (0 * 1):Nat):Int))=false) (h0b:∀ k,k < (R.length)→eqAt (cRw R) k) (hqcpo18_1:(ltI ((R.length:Nat):Int) ((R.length:Nat):Int))=false) (h2b:∀ k,k < (R.length)→okAt (cRw R) k) (hqcpo29_1:(ltI ((R.length:Nat):Int) ((R.length:Nat):Int))=false) (w:World) (hs:List Nat):Goes Try.prog 46 cpoK20 (⟨[(1,(.ptr 0 0))],[],2,[(0,(.cells [(.xl (y) (R.length) 1 (cRw R)),(.v (.int .i64 (e)))] 50))]⟩) (BaseW.H w hs) (OutH Try.prog Try.f37 46 (.int .i64 (ppE (cRw R) R.length e)) w):=by
 have ghqcpo7_1:=ltI_false hqcpo7_1
 have ghqcpo7_2:=ltI_false hqcpo7_2
 have ghqcpo7_3:=ltI_false hqcpo7_3
 have ghqcpo7_4:=ltI_false hqcpo7_4
 have ghqcpo29_1:=ltI_false hqcpo29_1
 rcases Bool.eq_false_or_eq_true (ltI e 0) with hqcpo31_1 | hqcpo31_1
 ·skip
  have ghqcpo31_1:=ltI_true hqcpo31_1
  exact goes_leafA isR_e (goes_told Try.checked.mixed (known_af) 200 (T':=⟨[(2,(.v (.int .i64 (.ofNat 2))))],[],2,[]⟩) (e:=.ret) (ps:=[(!ltI e 0)=false,false=false,false=false,(!false)=true]) [.go,.go,.go,.go,.go,.go,.go,.b false,.b false,.b false,.go,.go,.go,.b true,.go] (by kernel_rfl) (by kernel_rfl) ⟨(by rw [hqcpo31_1]; rfl),rfl,rfl,rfl,trivial⟩ rfl) (Hd.en_eq (r:=(.int .i64 2)) (by rw [ppE_err (c:=cRw R) (n:=R.length) (e:=e) (by omega) h0b (by omega)]) (Hd.en_ret (v:=(.v (.int .i64 (.ofNat 2)))) (by kernel_rfl) rfl))
 ·skip
  have ghqcpo31_1:=ltI_false hqcpo31_1
  rcases Bool.eq_false_or_eq_true (ltI 100 e) with hqcpo31_2 | hqcpo31_2
  ·skip
   have ghqcpo31_2:=ltI_true hqcpo31_2
   exact goes_leafA isR_e (goes_told Try.checked.mixed (known_af) 200 (T':=⟨[(2,(.v (.int .i64 (.ofNat 2))))],[],2,[]⟩) (e:=.ret) (ps:=[(!ltI e 0)=true,true=true,true=true,(!!ltI 100 e)=true]) [.go,.go,.go,.go,.go,.go,.go,.b true,.go,.b true,.go,.b true,.go,.go,.go,.go,.b true,.go] (by kernel_rfl) (by kernel_rfl) ⟨(by rw [hqcpo31_1]; rfl),rfl,rfl,(by rw [hqcpo31_2]; rfl),trivial⟩ rfl) (Hd.en_eq (r:=(.int .i64 2)) (by rw [ppE_err (c:=cRw R) (n:=R.length) (e:=e) (by omega) h0b (by omega)]) (Hd.en_ret (v:=(.v (.int .i64 (.ofNat 2)))) (by kernel_rfl) rfl))
  ·skip
   have ghqcpo31_2:=ltI_false hqcpo31_2
   exact goes_leafA isR_e (goes_told Try.checked.mixed (known_af) 200 (T':=⟨[(2,(.v (.int .i64 (.ofNat 0))))],[],2,[]⟩) (e:=.ret) (ps:=[(!ltI e 0)=true,true=true,true=true,(!!ltI 100 e)=false]) [.go,.go,.go,.go,.go,.go,.go,.b true,.go,.b true,.go,.b true,.go,.go,.go,.go,.b false,.go] (by kernel_rfl) (by kernel_rfl) ⟨(by rw [hqcpo31_1]; rfl),rfl,rfl,(by rw [hqcpo31_2]; rfl),trivial⟩ rfl) (Hd.en_eq (r:=(.int .i64 0)) (by rw [ppE_ok (c:=cRw R) (n:=R.length) (e:=e) (by omega) h0b h2b (by omega)]) (Hd.en_ret (v:=(.v (.int .i64 (.ofNat 0)))) (by kernel_rfl) rfl))
theorem cpo_28 (y:Value) (R:List (Value×List Int)) (e:Int) (hqcpo7_1:(ltI (((R.length:Nat):Int)) 1)=false) (hqcpo7_2:(ltI 12 ((R.length:Nat):Int))=false) (hqcpo7_3:(ltI (((xlN (cRw R) (0 * 1):Nat):Int)) 1)=false) (hqcpo7_4:(ltI 8 ((xlN (cRw R) (0 * 1):Nat):Int))=false) (h0b:∀ k,k < (R.length)→eqAt (cRw R) k) (hqcpo18_1:(ltI ((R.length:Nat):Int) ((R.length:Nat):Int))=false) (i:Nat) (hi1:i≤R.length) (hi2:∀ k,k < i→okAt (cRw R) k) (w:World) (hs:List Nat):Goes Try.prog 46 cpoK27 (⟨[(1,(.ptr 0 0)),(32,(.xl (y) (R.length) 1 (cRw R))),(33,(.v (.int .i64 (((R.length:Nat):Int))))),(34,(.v (.int .i64 ((i:Nat):Int))))],[],2,[(0,(.cells [(.xl (y) (R.length) 1 (cRw R)),(.v (.int .i64 (e)))] 50))]⟩) (BaseW.H w hs) (Hd.StepC Try.prog 46 2 (fun i:{i:Nat // i≤R.length∧∀ k,k < i→okAt (cRw R) k}=>⟨[(1,(.ptr 0 0)),(32,(.xl (y) (R.length) 1 (cRw R))),(33,(.v (.int .i64 (((R.length:Nat):Int))))),(34,(.v (.int .i64 ((i.1:Nat):Int))))],[],2,[(0,(.cells [(.xl (y) (R.length) 1 (cRw R)),(.v (.int .i64 (e)))] 50))]⟩) (fun i:{i:Nat // i≤R.length∧∀ k,k < i→okAt (cRw R) k}=>R.length - i.1) cpoK20 w (OutH Try.prog Try.f37 46 (.int .i64 (ppE (cRw R) R.length e)) w) (⟨i,hi1,hi2⟩:{i:Nat // i≤R.length∧∀ k,k < i→okAt (cRw R) k})):=by
 have ghqcpo7_1:=ltI_false hqcpo7_1
 have ghqcpo7_2:=ltI_false hqcpo7_2
 have ghqcpo7_3:=ltI_false hqcpo7_3
 have ghqcpo7_4:=ltI_false hqcpo7_4
 have ghqcpo18_1:=ltI_false hqcpo18_1
 rcases Bool.eq_false_or_eq_true (ltI ((i:Nat):Int) ((R.length:Nat):Int)) with hqcpo29_1 | hqcpo29_1
 ·skip
  have ghqcpo29_1:=ltI_true hqcpo29_1
  rcases Bool.eq_false_or_eq_true (afB 0 1000 (xlC (cRw R) (i * 1)) (xlN (cRw R) (i * 1))) with hqcpo29_2 | hqcpo29_2
  ·skip
   exact goes_leafA isN_e (goes_told Try.checked.mixed (known_af) 200 (T':=⟨[(1,(.ptr 0 0)),(32,(.xl (y) (R.length) 1 (cRw R))),(33,(.v (.int .i64 (((R.length:Nat):Int))))),(34,(.v (.int .i64 (((i + 1):Nat):Int))))],[],2,[(0,(.cells [(.xl (y) (R.length) 1 (cRw R)),(.v (.int .i64 (e)))] 50))]⟩) (e:=.normal) (ps:=[ltI ((i:Nat):Int) ((R.length:Nat):Int)=true,i < R.length,loadL Try.prog (cRw R) (i * 1) 27=some (AV.xl (xlY (cRw R) (i * 1)) (xlN (cRw R) (i * 1)) 1 (xlC (cRw R) (i * 1))),IsI 1 (xlN (cRw R) (i * 1)) (xlC (cRw R) (i * 1)),xlN (cRw R) (i * 1)≤1000,(!afB 0 1000 (xlC (cRw R) (i * 1)) (xlN (cRw R) (i * 1)))=false,inR IntKind.i64 (((i:Nat):Int) + 1)]) [.go,.b true,.sym,.sym,.go,.go,.go,.b false,.go,.go] (by kernel_rfl) (by kernel_rfl) ⟨hqcpo29_1,(by omega),(by rw [Nat.mul_one]; exact cRw_load (by omega) 27 (Try.underlying27) rfl),(cRw_isI (by omega)),(by have h9:=h0b i (by omega); unfold eqAt at h9; omega),(by rw [hqcpo29_2]; rfl),(iRF2 (by omega) (by omega)),trivial⟩ rfl) (Hd.en_on (⟨i + 1,by omega,(up_next (q:=okAt (cRw R)) hi2 (by unfold okAt; exact hqcpo29_2))⟩) (by show R.length - (i + 1) < R.length - i; omega) rfl)
  ·skip
   exact goes_leafA isR_e (goes_told Try.checked.mixed (known_af) 200 (T':=⟨[(2,(.v (.int .i64 (.ofNat 2))))],[],2,[]⟩) (e:=.ret) (ps:=[ltI ((i:Nat):Int) ((R.length:Nat):Int)=true,i < R.length,loadL Try.prog (cRw R) (i * 1) 27=some (AV.xl (xlY (cRw R) (i * 1)) (xlN (cRw R) (i * 1)) 1 (xlC (cRw R) (i * 1))),IsI 1 (xlN (cRw R) (i * 1)) (xlC (cRw R) (i * 1)),xlN (cRw R) (i * 1)≤1000,(!afB 0 1000 (xlC (cRw R) (i * 1)) (xlN (cRw R) (i * 1)))=true]) [.go,.b true,.sym,.sym,.go,.go,.go,.b true,.go] (by kernel_rfl) (by kernel_rfl) ⟨hqcpo29_1,(by omega),(by rw [Nat.mul_one]; exact cRw_load (by omega) 27 (Try.underlying27) rfl),(cRw_isI (by omega)),(by have h9:=h0b i (by omega); unfold eqAt at h9; omega),(by rw [hqcpo29_2]; rfl),trivial⟩ rfl) (Hd.en_so (by intro h; cases h) (by intro h; cases h) (Hd.en_eq (r:=(.int .i64 2)) (by rw [ppE_bad (c:=cRw R) (n:=R.length) (e:=e) (by omega) h0b (i:=i) (by omega) (by unfold okAt; rw [hqcpo29_2]; decide)]) (Hd.en_ret (v:=(.v (.int .i64 (.ofNat 2)))) (by kernel_rfl) rfl)))
 ·skip
  have ghqcpo29_1:=ltI_false hqcpo29_1
  obtain rfl:i=R.length:=by omega
  exact goes_leafA isX_e (goes_told Try.checked.mixed (known_af) 200 (T':=⟨[(1,(.ptr 0 0))],[],2,[(0,(.cells [(.xl (y) (R.length) 1 (cRw R)),(.v (.int .i64 (e)))] 50))]⟩) (e:=.exit 2) (ps:=[ltI ((R.length:Nat):Int) ((R.length:Nat):Int)=false]) [.go,.b false] (by kernel_rfl) (by kernel_rfl) ⟨hqcpo29_1,trivial⟩ rfl) (Hd.en_sx (cpo_30 y R e hqcpo7_1 hqcpo7_2 hqcpo7_3 hqcpo7_4 h0b hqcpo18_1 hi2  hqcpo29_1 w hs))
theorem cpo_26 (y:Value) (R:List (Value×List Int)) (e:Int) (hqcpo7_1:(ltI (((R.length:Nat):Int)) 1)=false) (hqcpo7_2:(ltI 12 ((R.length:Nat):Int))=false) (hqcpo7_3:(ltI (((xlN (cRw R) (0 * 1):Nat):Int)) 1)=false) (hqcpo7_4:(ltI 8 ((xlN (cRw R) (0 * 1):Nat):Int))=false) (h0b:∀ k,k < (R.length)→eqAt (cRw R) k) (hqcpo18_1:(ltI ((R.length:Nat):Int) ((R.length:Nat):Int))=false) (w:World) (hs:List Nat):Goes Try.prog 46 cpoK23 (⟨[(1,(.ptr 0 0)),(32,(.xl (y) (R.length) 1 (cRw R))),(33,(.v (.int .i64 (((R.length:Nat):Int))))),(34,(.v (.int .i64 (.ofNat 0))))],[],2,[(0,(.cells [(.xl (y) (R.length) 1 (cRw R)),(.v (.int .i64 (e)))] 50))]⟩) (BaseW.H w hs) (Hd.AfterN Try.prog 46 cpoK20 w (OutH Try.prog Try.f37 46 (.int .i64 (ppE (cRw R) R.length e)) w)):=by
 have ghqcpo7_1:=ltI_false hqcpo7_1
 have ghqcpo7_2:=ltI_false hqcpo7_2
 have ghqcpo7_3:=ltI_false hqcpo7_3
 have ghqcpo7_4:=ltI_false hqcpo7_4
 have ghqcpo18_1:=ltI_false hqcpo18_1
 exact Hd.goes_loopA (id:=2) (by kernel_rfl) (by kernel_rfl) (fun i:{i:Nat // i≤R.length∧∀ k,k < i→okAt (cRw R) k}=>⟨[(1,(.ptr 0 0)),(32,(.xl (y) (R.length) 1 (cRw R))),(33,(.v (.int .i64 (((R.length:Nat):Int))))),(34,(.v (.int .i64 ((i.1:Nat):Int))))],[],2,[(0,(.cells [(.xl (y) (R.length) 1 (cRw R)),(.v (.int .i64 (e)))] 50))]⟩) (fun i:{i:Nat // i≤R.length∧∀ k,k < i→okAt (cRw R) k}=>R.length - i.1) (fun ix_ hs=>cpo_28 y R e hqcpo7_1 hqcpo7_2 hqcpo7_3 hqcpo7_4 h0b hqcpo18_1 ix_.1 ix_.2.1 ix_.2.2 w hs) ⟨0,Nat.zero_le _,(fun j hj=>by omega)⟩ hs
theorem cpo_25 (y:Value) (R:List (Value×List Int)) (e:Int) (hqcpo7_1:(ltI (((R.length:Nat):Int)) 1)=false) (hqcpo7_2:(ltI 12 ((R.length:Nat):Int))=false) (hqcpo7_3:(ltI (((xlN (cRw R) (0 * 1):Nat):Int)) 1)=false) (hqcpo7_4:(ltI 8 ((xlN (cRw R) (0 * 1):Nat):Int))=false) (h0b:∀ k,k < (R.length)→eqAt (cRw R) k) (hqcpo18_1:(ltI ((R.length:Nat):Int) ((R.length:Nat):Int))=false) (w:World) (hs:List Nat):Goes Try.prog 46 cpoK23 (⟨[(1,(.ptr 0 0)),(32,(.xl (y) (R.length) 1 (cRw R))),(33,(.v (.int .i64 (((R.length:Nat):Int))))),(34,(.v (.int .i64 (.ofNat 0))))],[],2,[(0,(.cells [(.xl (y) (R.length) 1 (cRw R)),(.v (.int .i64 (e)))] 50))]⟩) (BaseW.H w hs) (Hd.AfterN Try.prog 46 cpoK20 w (OutH Try.prog Try.f37 46 (.int .i64 (ppE (cRw R) R.length e)) w)):=by
 exact cpo_26 y R e hqcpo7_1 hqcpo7_2 hqcpo7_3 hqcpo7_4 h0b hqcpo18_1 w hs
theorem cpo_22 (y:Value) (R:List (Value×List Int)) (e:Int) (hqcpo7_1:(ltI (((R.length:Nat):Int)) 1)=false) (hqcpo7_2:(ltI 12 ((R.length:Nat):Int))=false) (hqcpo7_3:(ltI (((xlN (cRw R) (0 * 1):Nat):Int)) 1)=false) (hqcpo7_4:(ltI 8 ((xlN (cRw R) (0 * 1):Nat):Int))=false) (h0b:∀ k,k < (R.length)→eqAt (cRw R) k) (hqcpo18_1:(ltI ((R.length:Nat):Int) ((R.length:Nat):Int))=false) (w:World) (hs:List Nat):Goes Try.prog 46 cpoK21 (⟨[(1,(.ptr 0 0))],[],2,[(0,(.cells [(.xl (y) (R.length) 1 (cRw R)),(.v (.int .i64 (e)))] 50))]⟩) (BaseW.H w hs) (Hd.AfterN Try.prog 46 cpoK20 w (OutH Try.prog Try.f37 46 (.int .i64 (ppE (cRw R) R.length e)) w)):=by
 have ghqcpo7_1:=ltI_false hqcpo7_1
 have ghqcpo7_2:=ltI_false hqcpo7_2
 have ghqcpo7_3:=ltI_false hqcpo7_3
 have ghqcpo7_4:=ltI_false hqcpo7_4
 have ghqcpo18_1:=ltI_false hqcpo18_1
 refine Hd.goes_seqA (by kernel_rfl) ?_
 exact goes_leafA isN_e (goes_told Try.checked.mixed (known_af) 200 (T':=⟨[(1,(.ptr 0 0)),(32,(.xl (y) (R.length) 1 (cRw R))),(33,(.v (.int .i64 (((R.length:Nat):Int))))),(34,(.v (.int .i64 (.ofNat 0))))],[],2,[(0,(.cells [(.xl (y) (R.length) 1 (cRw R)),(.v (.int .i64 (e)))] 50))]⟩) (e:=.normal) (ps:=[]) [.go,.go,.go,.go] (by kernel_rfl) (by kernel_rfl) trivial rfl) (Hd.en_n (cpo_25 y R e hqcpo7_1 hqcpo7_2 hqcpo7_3 hqcpo7_4 h0b hqcpo18_1 w hs))
theorem cpo_19 (y:Value) (R:List (Value×List Int)) (e:Int) (hqcpo7_1:(ltI (((R.length:Nat):Int)) 1)=false) (hqcpo7_2:(ltI 12 ((R.length:Nat):Int))=false) (hqcpo7_3:(ltI (((xlN (cRw R) (0 * 1):Nat):Int)) 1)=false) (hqcpo7_4:(ltI 8 ((xlN (cRw R) (0 * 1):Nat):Int))=false) (h0b:∀ k,k < (R.length)→eqAt (cRw R) k) (hqcpo18_1:(ltI ((R.length:Nat):Int) ((R.length:Nat):Int))=false) (w:World) (hs:List Nat):Goes Try.prog 46 cpoK9 (⟨[(1,(.ptr 0 0))],[],2,[(0,(.cells [(.xl (y) (R.length) 1 (cRw R)),(.v (.int .i64 (e)))] 50))]⟩) (BaseW.H w hs) (OutH Try.prog Try.f37 46 (.int .i64 (ppE (cRw R) R.length e)) w):=by
 exact Hd.goes_seqA (by kernel_rfl) (cpo_22 y R e hqcpo7_1 hqcpo7_2 hqcpo7_3 hqcpo7_4 h0b hqcpo18_1 w hs)
theorem cpo_17 (y:Value) (R:List (Value×List Int)) (e:Int) (hqcpo7_1:(ltI (((R.length:Nat):Int)) 1)=false) (hqcpo7_2:(ltI 12 ((R.length:Nat):Int))=false) (hqcpo7_3:(ltI (((xlN (cRw R) (0 * 1):Nat):Int)) 1)=false) (hqcpo7_4:(ltI 8 ((xlN (cRw R) (0 * 1):Nat):Int))=false) (i:Nat) (hi1:i≤R.length) (hi2:∀ k,k < i→eqAt (cRw R) k) (w:World) (hs:List Nat):Goes Try.prog 46 cpoK16 (⟨[(1,(.ptr 0 0)),(19,(.xl (y) (R.length) 1 (cRw R))),(20,(.v (.int .i64 (((R.length:Nat):Int))))),(21,(.v (.int .i64 ((i:Nat):Int))))],[],2,[(0,(.cells [(.xl (y) (R.length) 1 (cRw R)),(.v (.int .i64 (e)))] 50))]⟩) (BaseW.H w hs) (Hd.StepC Try.prog 46 0 (fun i:{i:Nat // i≤R.length∧∀ k,k < i→eqAt (cRw R) k}=>⟨[(1,(.ptr 0 0)),(19,(.xl (y) (R.length) 1 (cRw R))),(20,(.v (.int .i64 (((R.length:Nat):Int))))),(21,(.v (.int .i64 ((i.1:Nat):Int))))],[],2,[(0,(.cells [(.xl (y) (R.length) 1 (cRw R)),(.v (.int .i64 (e)))] 50))]⟩) (fun i:{i:Nat // i≤R.length∧∀ k,k < i→eqAt (cRw R) k}=>R.length - i.1) cpoK9 w (OutH Try.prog Try.f37 46 (.int .i64 (ppE (cRw R) R.length e)) w) (⟨i,hi1,hi2⟩:{i:Nat // i≤R.length∧∀ k,k < i→eqAt (cRw R) k})):=by
 have ghqcpo7_1:=ltI_false hqcpo7_1
 have ghqcpo7_2:=ltI_false hqcpo7_2
 have ghqcpo7_3:=ltI_false hqcpo7_3
 have ghqcpo7_4:=ltI_false hqcpo7_4
 rcases Bool.eq_false_or_eq_true (ltI ((i:Nat):Int) ((R.length:Nat):Int)) with hqcpo18_1 | hqcpo18_1
 ·skip
  have ghqcpo18_1:=ltI_true hqcpo18_1
  rcases Bool.eq_false_or_eq_true (eqI ((xlN (cRw R) (i * 1):Nat):Int) ((xlN (cRw R) (0 * 1):Nat):Int)) with hqcpo18_2 | hqcpo18_2
  ·skip
   have ghqcpo18_2:=eqI_true hqcpo18_2
   exact goes_leafA isN_e (goes_cut Try.checked.mixed (known_af) 200 (T':=⟨[(1,(.ptr 0 0)),(19,(.xl (y) (R.length) 1 (cRw R))),(20,(.v (.int .i64 (((R.length:Nat):Int))))),(21,(.v (.int .i64 (((i + 1):Nat):Int))))],[],2,[(0,(.cells [(.xl (y) (R.length) 1 (cRw R)),(.v (.int .i64 (e)))] 50))]⟩) (e:=.normal) (m:=3) (ps:=[ltI ((i:Nat):Int) ((R.length:Nat):Int)=true,i < R.length,loadL Try.prog (cRw R) (i * 1) 27=some (AV.xl (xlY (cRw R) (i * 1)) (xlN (cRw R) (i * 1)) 1 (xlC (cRw R) (i * 1))),0 < R.length,loadL Try.prog (cRw R) (0 * 1) 27=some (AV.xl (xlY (cRw R) (0 * 1)) (xlN (cRw R) (0 * 1)) 1 (xlC (cRw R) (0 * 1))),(!eqI ((xlN (cRw R) (i * 1):Nat):Int) ((xlN (cRw R) (0 * 1):Nat):Int))=false,inR IntKind.i64 (((i:Nat):Int) + 1)]) [.go,.b true,.sym,.sym,.go,.go,.go,.go,.go,.go,.go,.go,.sym,.sym,.go,.go,.go,.b false,.go,.go] (by kernel_rfl) (by kernel_rfl) ⟨hqcpo18_1,(by omega),(by rw [Nat.mul_one]; exact cRw_load (by omega) 27 (Try.underlying27) rfl),(by omega),(by rw [Nat.mul_one]; exact cRw_load (by omega) 27 (Try.underlying27) rfl),(by rw [hqcpo18_2]; rfl),(iRF2 (by omega) (by omega)),trivial⟩ rfl (by show 2≤3; decide) ⟨⟨nb_ptr (by show 0 < 2; decide),nb_free (freeL_xl (freeL_plainR _)),nb_v _,nb_v _,trivial⟩,⟨⟨by show 0 < 2; decide,nbb_cells (nb_cons (nb_free (freeL_xl (freeL_plainR _))) (nb_cons (nb_v _) (fun _ hz=>absurd hz List.not_mem_nil)))⟩,trivial⟩,rfl⟩) (Hd.en_on (⟨i + 1,by omega,(up_next (q:=eqAt (cRw R)) hi2 (by unfold eqAt; omega))⟩) (by show R.length - (i + 1) < R.length - i; omega) rfl)
  ·skip
   have ghqcpo18_2:=eqI_false hqcpo18_2
   exact goes_leafA isR_e (goes_told Try.checked.mixed (known_af) 200 (T':=⟨[(2,(.v (.int .i64 (.ofNat 15))))],[],3,[]⟩) (e:=.ret) (ps:=[ltI ((i:Nat):Int) ((R.length:Nat):Int)=true,i < R.length,loadL Try.prog (cRw R) (i * 1) 27=some (AV.xl (xlY (cRw R) (i * 1)) (xlN (cRw R) (i * 1)) 1 (xlC (cRw R) (i * 1))),0 < R.length,loadL Try.prog (cRw R) (0 * 1) 27=some (AV.xl (xlY (cRw R) (0 * 1)) (xlN (cRw R) (0 * 1)) 1 (xlC (cRw R) (0 * 1))),(!eqI ((xlN (cRw R) (i * 1):Nat):Int) ((xlN (cRw R) (0 * 1):Nat):Int))=true]) [.go,.b true,.sym,.sym,.go,.go,.go,.go,.go,.go,.go,.go,.sym,.sym,.go,.go,.go,.b true,.go] (by kernel_rfl) (by kernel_rfl) ⟨hqcpo18_1,(by omega),(by rw [Nat.mul_one]; exact cRw_load (by omega) 27 (Try.underlying27) rfl),(by omega),(by rw [Nat.mul_one]; exact cRw_load (by omega) 27 (Try.underlying27) rfl),(by rw [hqcpo18_2]; rfl),trivial⟩ rfl) (Hd.en_so (by intro h; cases h) (by intro h; cases h) (Hd.en_eq (r:=(.int .i64 15)) (by rw [ppE_len (c:=cRw R) (n:=R.length) (e:=e) (i:=i) (by omega) (by omega) (by unfold eqAt; omega)]) (Hd.en_ret (v:=(.v (.int .i64 (.ofNat 15)))) (by kernel_rfl) rfl)))
 ·skip
  have ghqcpo18_1:=ltI_false hqcpo18_1
  obtain rfl:i=R.length:=by omega
  exact goes_leafA isX_e (goes_told Try.checked.mixed (known_af) 200 (T':=⟨[(1,(.ptr 0 0))],[],2,[(0,(.cells [(.xl (y) (R.length) 1 (cRw R)),(.v (.int .i64 (e)))] 50))]⟩) (e:=.exit 0) (ps:=[ltI ((R.length:Nat):Int) ((R.length:Nat):Int)=false]) [.go,.b false] (by kernel_rfl) (by kernel_rfl) ⟨hqcpo18_1,trivial⟩ rfl) (Hd.en_sx (cpo_19 y R e hqcpo7_1 hqcpo7_2 hqcpo7_3 hqcpo7_4 hi2  hqcpo18_1 w hs))
theorem cpo_15 (y:Value) (R:List (Value×List Int)) (e:Int) (hqcpo7_1:(ltI (((R.length:Nat):Int)) 1)=false) (hqcpo7_2:(ltI 12 ((R.length:Nat):Int))=false) (hqcpo7_3:(ltI (((xlN (cRw R) (0 * 1):Nat):Int)) 1)=false) (hqcpo7_4:(ltI 8 ((xlN (cRw R) (0 * 1):Nat):Int))=false) (w:World) (hs:List Nat):Goes Try.prog 46 cpoK12 (⟨[(1,(.ptr 0 0)),(19,(.xl (y) (R.length) 1 (cRw R))),(20,(.v (.int .i64 (((R.length:Nat):Int))))),(21,(.v (.int .i64 (.ofNat 0))))],[],2,[(0,(.cells [(.xl (y) (R.length) 1 (cRw R)),(.v (.int .i64 (e)))] 50))]⟩) (BaseW.H w hs) (Hd.AfterN Try.prog 46 cpoK9 w (OutH Try.prog Try.f37 46 (.int .i64 (ppE (cRw R) R.length e)) w)):=by
 have ghqcpo7_1:=ltI_false hqcpo7_1
 have ghqcpo7_2:=ltI_false hqcpo7_2
 have ghqcpo7_3:=ltI_false hqcpo7_3
 have ghqcpo7_4:=ltI_false hqcpo7_4
 exact Hd.goes_loopA (id:=0) (by kernel_rfl) (by kernel_rfl) (fun i:{i:Nat // i≤R.length∧∀ k,k < i→eqAt (cRw R) k}=>⟨[(1,(.ptr 0 0)),(19,(.xl (y) (R.length) 1 (cRw R))),(20,(.v (.int .i64 (((R.length:Nat):Int))))),(21,(.v (.int .i64 ((i.1:Nat):Int))))],[],2,[(0,(.cells [(.xl (y) (R.length) 1 (cRw R)),(.v (.int .i64 (e)))] 50))]⟩) (fun i:{i:Nat // i≤R.length∧∀ k,k < i→eqAt (cRw R) k}=>R.length - i.1) (fun ix_ hs=>cpo_17 y R e hqcpo7_1 hqcpo7_2 hqcpo7_3 hqcpo7_4 ix_.1 ix_.2.1 ix_.2.2 w hs) ⟨0,Nat.zero_le _,(fun j hj=>by omega)⟩ hs
theorem cpo_14 (y:Value) (R:List (Value×List Int)) (e:Int) (hqcpo7_1:(ltI (((R.length:Nat):Int)) 1)=false) (hqcpo7_2:(ltI 12 ((R.length:Nat):Int))=false) (hqcpo7_3:(ltI (((xlN (cRw R) (0 * 1):Nat):Int)) 1)=false) (hqcpo7_4:(ltI 8 ((xlN (cRw R) (0 * 1):Nat):Int))=false) (w:World) (hs:List Nat):Goes Try.prog 46 cpoK12 (⟨[(1,(.ptr 0 0)),(19,(.xl (y) (R.length) 1 (cRw R))),(20,(.v (.int .i64 (((R.length:Nat):Int))))),(21,(.v (.int .i64 (.ofNat 0))))],[],2,[(0,(.cells [(.xl (y) (R.length) 1 (cRw R)),(.v (.int .i64 (e)))] 50))]⟩) (BaseW.H w hs) (Hd.AfterN Try.prog 46 cpoK9 w (OutH Try.prog Try.f37 46 (.int .i64 (ppE (cRw R) R.length e)) w)):=by
 exact cpo_15 y R e hqcpo7_1 hqcpo7_2 hqcpo7_3 hqcpo7_4 w hs
theorem cpo_11 (y:Value) (R:List (Value×List Int)) (e:Int) (hqcpo7_1:(ltI (((R.length:Nat):Int)) 1)=false) (hqcpo7_2:(ltI 12 ((R.length:Nat):Int))=false) (hqcpo7_3:(ltI (((xlN (cRw R) (0 * 1):Nat):Int)) 1)=false) (hqcpo7_4:(ltI 8 ((xlN (cRw R) (0 * 1):Nat):Int))=false) (w:World) (hs:List Nat):Goes Try.prog 46 cpoK10 (⟨[(1,(.ptr 0 0))],[],2,[(0,(.cells [(.xl (y) (R.length) 1 (cRw R)),(.v (.int .i64 (e)))] 50))]⟩) (BaseW.H w hs) (Hd.AfterN Try.prog 46 cpoK9 w (OutH Try.prog Try.f37 46 (.int .i64 (ppE (cRw R) R.length e)) w)):=by
 have ghqcpo7_1:=ltI_false hqcpo7_1
 have ghqcpo7_2:=ltI_false hqcpo7_2
 have ghqcpo7_3:=ltI_false hqcpo7_3
 have ghqcpo7_4:=ltI_false hqcpo7_4
 refine Hd.goes_seqA (by kernel_rfl) ?_
 exact goes_leafA isN_e (goes_told Try.checked.mixed (known_af) 200 (T':=⟨[(1,(.ptr 0 0)),(19,(.xl (y) (R.length) 1 (cRw R))),(20,(.v (.int .i64 (((R.length:Nat):Int))))),(21,(.v (.int .i64 (.ofNat 0))))],[],2,[(0,(.cells [(.xl (y) (R.length) 1 (cRw R)),(.v (.int .i64 (e)))] 50))]⟩) (e:=.normal) (ps:=[]) [.go,.go,.go,.go] (by kernel_rfl) (by kernel_rfl) trivial rfl) (Hd.en_n (cpo_14 y R e hqcpo7_1 hqcpo7_2 hqcpo7_3 hqcpo7_4 w hs))
theorem cpo_8 (y:Value) (R:List (Value×List Int)) (e:Int) (hqcpo7_1:(ltI (((R.length:Nat):Int)) 1)=false) (hqcpo7_2:(ltI 12 ((R.length:Nat):Int))=false) (hqcpo7_3:(ltI (((xlN (cRw R) (0 * 1):Nat):Int)) 1)=false) (hqcpo7_4:(ltI 8 ((xlN (cRw R) (0 * 1):Nat):Int))=false) (w:World) (hs:List Nat):Goes Try.prog 46 cpoK6 (⟨[(1,(.ptr 0 0))],[],2,[(0,(.cells [(.xl (y) (R.length) 1 (cRw R)),(.v (.int .i64 (e)))] 50))]⟩) (BaseW.H w hs) (OutH Try.prog Try.f37 46 (.int .i64 (ppE (cRw R) R.length e)) w):=by
 exact Hd.goes_seqA (by kernel_rfl) (cpo_11 y R e hqcpo7_1 hqcpo7_2 hqcpo7_3 hqcpo7_4 w hs)
theorem cpo_5 (y:Value) (R:List (Value×List Int)) (e:Int) (w:World) (hs:List Nat):Goes Try.prog 46 cpoK3 (⟨[(1,(.ptr 0 0))],[],1,[(0,(.cells [(.xl (y) (R.length) 1 (cRw R)),(.v (.int .i64 (e)))] 50))]⟩) (BaseW.H w hs) (OutH Try.prog Try.f37 46 (.int .i64 (ppE (cRw R) R.length e)) w):=by
 refine Hd.goes_seqA (by kernel_rfl) ?_
 rcases Bool.eq_false_or_eq_true (ltI (((R.length:Nat):Int)) 1) with hqcpo7_1 | hqcpo7_1
 ·skip
  have ghqcpo7_1:=ltI_true hqcpo7_1
  exact goes_leafA isR_e (goes_told Try.checked.mixed (known_af) 200 (T':=⟨[(2,(.v (.int .i64 (.ofNat 6))))],[],1,[]⟩) (e:=.ret) (ps:=[(!ltI (((R.length:Nat):Int)) 1)=false,false=false,false=false,(!false)=true,true=true,true=true,true=true,true=true]) [.go,.go,.go,.go,.go,.go,.go,.go,.b false,.b false,.b false,.go,.go,.go,.go,.b true,.b true,.b true,.b true,.go,.b true,.go] (by kernel_rfl) (by kernel_rfl) ⟨(by rw [hqcpo7_1]; rfl),rfl,rfl,rfl,rfl,rfl,rfl,rfl,trivial⟩ rfl) (Hd.en_o (by intro h; cases h) (Hd.en_eq (r:=(.int .i64 6)) (by rw [ppE_many (c:=cRw R) (n:=R.length) (e:=e) (by omega)]) (Hd.en_ret (v:=(.v (.int .i64 (.ofNat 6)))) (by kernel_rfl) rfl)))
 ·skip
  have ghqcpo7_1:=ltI_false hqcpo7_1
  rcases Bool.eq_false_or_eq_true (ltI 12 ((R.length:Nat):Int)) with hqcpo7_2 | hqcpo7_2
  ·skip
   have ghqcpo7_2:=ltI_true hqcpo7_2
   exact goes_leafA isR_e (goes_told Try.checked.mixed (known_af) 200 (T':=⟨[(2,(.v (.int .i64 (.ofNat 6))))],[],1,[]⟩) (e:=.ret) (ps:=[(!ltI (((R.length:Nat):Int)) 1)=true,true=true,true=true,(!!ltI 12 ((R.length:Nat):Int))=true,true=true,true=true,true=true,true=true]) [.go,.go,.go,.go,.go,.go,.go,.go,.b true,.go,.b true,.go,.b true,.go,.go,.go,.go,.go,.b true,.b true,.b true,.b true,.go,.b true,.go] (by kernel_rfl) (by kernel_rfl) ⟨(by rw [hqcpo7_1]; rfl),rfl,rfl,(by rw [hqcpo7_2]; rfl),rfl,rfl,rfl,rfl,trivial⟩ rfl) (Hd.en_o (by intro h; cases h) (Hd.en_eq (r:=(.int .i64 6)) (by rw [ppE_many (c:=cRw R) (n:=R.length) (e:=e) (by omega)]) (Hd.en_ret (v:=(.v (.int .i64 (.ofNat 6)))) (by kernel_rfl) rfl)))
  ·skip
   have ghqcpo7_2:=ltI_false hqcpo7_2
   rcases Bool.eq_false_or_eq_true (ltI (((xlN (cRw R) (0 * 1):Nat):Int)) 1) with hqcpo7_3 | hqcpo7_3
   ·skip
    have ghqcpo7_3:=ltI_true hqcpo7_3
    exact goes_leafA isR_e (goes_told Try.checked.mixed (known_af) 200 (T':=⟨[(2,(.v (.int .i64 (.ofNat 6))))],[],2,[]⟩) (e:=.ret) (ps:=[(!ltI (((R.length:Nat):Int)) 1)=true,true=true,true=true,(!!ltI 12 ((R.length:Nat):Int))=false,false=false,0 < R.length,loadL Try.prog (cRw R) (0 * 1) 27=some (AV.xl (xlY (cRw R) (0 * 1)) (xlN (cRw R) (0 * 1)) 1 (xlC (cRw R) (0 * 1))),false=false,(!ltI (((xlN (cRw R) (0 * 1):Nat):Int)) 1)=false,false=false,false=false,false=false,(!false)=true]) [.go,.go,.go,.go,.go,.go,.go,.go,.b true,.go,.b true,.go,.b true,.go,.go,.go,.go,.go,.b false,.go,.b false,.go,.go,.go,.go,.sym,.sym,.go,.go,.b false,.go,.go,.go,.go,.go,.b false,.b false,.b false,.go,.go,.b false,.go,.go,.b true,.go] (by kernel_rfl) (by kernel_rfl) ⟨(by rw [hqcpo7_1]; rfl),rfl,rfl,(by rw [hqcpo7_2]; rfl),rfl,(by omega),(by rw [Nat.mul_one]; exact cRw_load (by omega) 27 (Try.underlying27) rfl),rfl,(by rw [hqcpo7_3]; rfl),rfl,rfl,rfl,rfl,trivial⟩ rfl) (Hd.en_o (by intro h; cases h) (Hd.en_eq (r:=(.int .i64 6)) (by rw [ppE_many (c:=cRw R) (n:=R.length) (e:=e) (by omega)]) (Hd.en_ret (v:=(.v (.int .i64 (.ofNat 6)))) (by kernel_rfl) rfl)))
   ·skip
    have ghqcpo7_3:=ltI_false hqcpo7_3
    rcases Bool.eq_false_or_eq_true (ltI 8 ((xlN (cRw R) (0 * 1):Nat):Int)) with hqcpo7_4 | hqcpo7_4
    ·skip
     have ghqcpo7_4:=ltI_true hqcpo7_4
     exact goes_leafA isR_e (goes_told Try.checked.mixed (known_af) 200 (T':=⟨[(2,(.v (.int .i64 (.ofNat 6))))],[],2,[]⟩) (e:=.ret) (ps:=[(!ltI (((R.length:Nat):Int)) 1)=true,true=true,true=true,(!!ltI 12 ((R.length:Nat):Int))=false,false=false,0 < R.length,loadL Try.prog (cRw R) (0 * 1) 27=some (AV.xl (xlY (cRw R) (0 * 1)) (xlN (cRw R) (0 * 1)) 1 (xlC (cRw R) (0 * 1))),false=false,(!ltI (((xlN (cRw R) (0 * 1):Nat):Int)) 1)=true,true=true,true=true,false=false,(!!ltI 8 ((xlN (cRw R) (0 * 1):Nat):Int))=true]) [.go,.go,.go,.go,.go,.go,.go,.go,.b true,.go,.b true,.go,.b true,.go,.go,.go,.go,.go,.b false,.go,.b false,.go,.go,.go,.go,.sym,.sym,.go,.go,.b false,.go,.go,.go,.go,.go,.b true,.go,.b true,.go,.b true,.go,.go,.go,.b false,.go,.go,.b true,.go] (by kernel_rfl) (by kernel_rfl) ⟨(by rw [hqcpo7_1]; rfl),rfl,rfl,(by rw [hqcpo7_2]; rfl),rfl,(by omega),(by rw [Nat.mul_one]; exact cRw_load (by omega) 27 (Try.underlying27) rfl),rfl,(by rw [hqcpo7_3]; rfl),rfl,rfl,rfl,(by rw [hqcpo7_4]; rfl),trivial⟩ rfl) (Hd.en_o (by intro h; cases h) (Hd.en_eq (r:=(.int .i64 6)) (by rw [ppE_many (c:=cRw R) (n:=R.length) (e:=e) (by omega)]) (Hd.en_ret (v:=(.v (.int .i64 (.ofNat 6)))) (by kernel_rfl) rfl)))
    ·skip
     have ghqcpo7_4:=ltI_false hqcpo7_4
     exact goes_leafA isN_e (goes_told Try.checked.mixed (known_af) 200 (T':=⟨[(1,(.ptr 0 0))],[],2,[(0,(.cells [(.xl (y) (R.length) 1 (cRw R)),(.v (.int .i64 (e)))] 50))]⟩) (e:=.normal) (ps:=[(!ltI (((R.length:Nat):Int)) 1)=true,true=true,true=true,(!!ltI 12 ((R.length:Nat):Int))=false,false=false,0 < R.length,loadL Try.prog (cRw R) (0 * 1) 27=some (AV.xl (xlY (cRw R) (0 * 1)) (xlN (cRw R) (0 * 1)) 1 (xlC (cRw R) (0 * 1))),false=false,(!ltI (((xlN (cRw R) (0 * 1):Nat):Int)) 1)=true,true=true,true=true,false=false,(!!ltI 8 ((xlN (cRw R) (0 * 1):Nat):Int))=false]) [.go,.go,.go,.go,.go,.go,.go,.go,.b true,.go,.b true,.go,.b true,.go,.go,.go,.go,.go,.b false,.go,.b false,.go,.go,.go,.go,.sym,.sym,.go,.go,.b false,.go,.go,.go,.go,.go,.b true,.go,.b true,.go,.b true,.go,.go,.go,.b false,.go,.go,.b false] (by kernel_rfl) (by kernel_rfl) ⟨(by rw [hqcpo7_1]; rfl),rfl,rfl,(by rw [hqcpo7_2]; rfl),rfl,(by omega),(by rw [Nat.mul_one]; exact cRw_load (by omega) 27 (Try.underlying27) rfl),rfl,(by rw [hqcpo7_3]; rfl),rfl,rfl,rfl,(by rw [hqcpo7_4]; rfl),trivial⟩ rfl) (Hd.en_n (cpo_8 y R e hqcpo7_1 hqcpo7_2 hqcpo7_3 hqcpo7_4 w hs))
theorem cpo_2 (y:Value) (R:List (Value×List Int)) (e:Int) (w:World) (hs:List Nat):Goes Try.prog 46 cpoK1 (⟨[(0,(.agg [.xl y R.length 1 (cRw R),.v (.int .i64 e)]))],[],0,[]⟩) (BaseW.H w hs) (OutH Try.prog Try.f37 46 (.int .i64 (ppE (cRw R) R.length e)) w):=by
 refine Hd.goes_seqA (by kernel_rfl) ?_
 exact goes_leafA isN_e (goes_told Try.checked.mixed (known_af) 200 (T':=⟨[(1,(.ptr 0 0))],[],1,[(0,(.cells [(.xl (y) (R.length) 1 (cRw R)),(.v (.int .i64 (e)))] 50))]⟩) (e:=.normal) (ps:=[]) [.go,.go] (by kernel_rfl) (by kernel_rfl) trivial rfl) (Hd.en_n (cpo_5 y R e w hs))
theorem pp_g (y:Value) (R:List (Value×List Int)) (e:Int):GivesA Try.prog 37 [(.agg [.xl y R.length 1 (cRw R),.v (.int .i64 e)])] (.int .i64 (ppE (cRw R) R.length e)) :=
 givesA_partsH 46 Try.func37 (by kernel_rfl) (by kernel_rfl) (by kernel_rfl) (fun w=>goes_less (by kernel_rfl) (by kernel_rfl) (by kernel_rfl) (by kernel_rfl) (cpo_2 y R e w []))
noncomputable def cprK1:Code:=bodyC Try.f38
noncomputable def cprK3:Code:=tlC cprK1
noncomputable def cprK6:Code:=tlC cprK3
noncomputable def cprK9:Code:=tlC cprK6
noncomputable def cprK10:Code:=(hdC cprK6)
noncomputable def cprK12:Code:=tlC cprK10
noncomputable def cprK16:Code:=loopC cprK12
noncomputable def cprK20:Code:=tlC cprK9
noncomputable def cprK23:Code:=tlC cprK20
noncomputable def cprK24:Code:=(hdC cprK20)
noncomputable def cprK26:Code:=tlC cprK24
noncomputable def cprK30:Code:=loopC cprK26
noncomputable def cprK33:Code:=tlC cprK30
noncomputable def cprK36:Code:=tlC cprK33
noncomputable def cprK38:Code:=blkB (hdC cprK33)
noncomputable def cprK40:Code:=tlC cprK38
noncomputable def cprK44:Code:=loopC cprK40
theorem cpr_47 (y:Value) (R:List (Value×List Int)) (e:Int) (hqcpr7_1:(ltI (((R.length:Nat):Int)) 1)=false) (hqcpr7_2:(ltI 12 ((R.length:Nat):Int))=false) (hqcpr7_3:(ltI (((xlN (cRw R) (0 * 1):Nat):Int)) 1)=false) (hqcpr7_4:(ltI 8 ((xlN (cRw R) (0 * 1):Nat):Int))=false) (h0b:∀ k,k < (R.length)→eqAt (cRw R) k) (hqcpr18_1:(ltI ((R.length:Nat):Int) ((R.length:Nat):Int))=false) (hqcpr21_1:(ltI e 0)=false) (hqcpr21_2:(ltI 100 e)=false) (i:Nat) (hi1:i≤R.length) (hi2:∀ k,k < i→okAt (cRw R) k) (hqcpr34_1:(ltI ((i:Nat):Int) ((R.length:Nat):Int))=true) (hj2:∀ k,k < (xlN (cRw R) (i * 1))→0≤intAt (xlC (cRw R) (i * 1)) (k * 1)∧intAt (xlC (cRw R) (i * 1)) (k * 1)≤1000) (hqcpr46_1:(ltI ((xlN (cRw R) (i * 1):Nat):Int) ((xlN (cRw R) (i * 1):Nat):Int))=false) (w:World) (hs:List Nat):Goes Try.prog 96 cprK36 (⟨[(1,(.ptr 0 0)),(4,(.v (.int .i64 (((i:Nat):Int)))))],[],1,[(0,(.cells [(.xl (y) (R.length) 1 (cRw R)),(.v (.int .i64 (e)))] 50))]⟩) (BaseW.H w hs) (Hd.StepC Try.prog 96 2 (fun i:{i:Nat // i≤R.length∧∀ k,k < i→okAt (cRw R) k}=>⟨[(1,(.ptr 0 0)),(4,(.v (.int .i64 ((i.1:Nat):Int))))],[],1,[(0,(.cells [(.xl (y) (R.length) 1 (cRw R)),(.v (.int .i64 (e)))] 50))]⟩) (fun i:{i:Nat // i≤R.length∧∀ k,k < i→okAt (cRw R) k}=>R.length - i.1) cprK23 w (OutH Try.prog Try.f38 96 (.int .i64 (ppE (cRw R) R.length e)) w) (⟨i,hi1,hi2⟩:{i:Nat // i≤R.length∧∀ k,k < i→okAt (cRw R) k})):=by
 have ghqcpr7_1:=ltI_false hqcpr7_1
 have ghqcpr7_2:=ltI_false hqcpr7_2
 have ghqcpr7_3:=ltI_false hqcpr7_3
 have ghqcpr7_4:=ltI_false hqcpr7_4
 have ghqcpr18_1:=ltI_false hqcpr18_1
 have ghqcpr21_1:=ltI_false hqcpr21_1
 have ghqcpr21_2:=ltI_false hqcpr21_2
 have ghqcpr34_1:=ltI_true hqcpr34_1
 have ghqcpr46_1:=ltI_false hqcpr46_1
 exact goes_leafA isN_e (goes_told Try.checked.mixed (known_none) 200 (T':=⟨[(1,(.ptr 0 0)),(4,(.v (.int .i64 (((i + 1):Nat):Int))))],[],1,[(0,(.cells [(.xl (y) (R.length) 1 (cRw R)),(.v (.int .i64 (e)))] 50))]⟩) (e:=.normal) (ps:=[inR IntKind.i64 (((i:Nat):Int) + 1)]) [.go,.go,.go] (by kernel_rfl) (by kernel_rfl) ⟨(iRF2 (by omega) (by omega)),trivial⟩ rfl) (Hd.en_on (⟨i + 1,by omega,(up_next (q:=okAt (cRw R)) hi2 (by unfold okAt; exact afB_true.2 hj2))⟩) (by show R.length - (i + 1) < R.length - i; omega) rfl)
theorem cpr_45 (y:Value) (R:List (Value×List Int)) (e:Int) (hqcpr7_1:(ltI (((R.length:Nat):Int)) 1)=false) (hqcpr7_2:(ltI 12 ((R.length:Nat):Int))=false) (hqcpr7_3:(ltI (((xlN (cRw R) (0 * 1):Nat):Int)) 1)=false) (hqcpr7_4:(ltI 8 ((xlN (cRw R) (0 * 1):Nat):Int))=false) (h0b:∀ k,k < (R.length)→eqAt (cRw R) k) (hqcpr18_1:(ltI ((R.length:Nat):Int) ((R.length:Nat):Int))=false) (hqcpr21_1:(ltI e 0)=false) (hqcpr21_2:(ltI 100 e)=false) (i:Nat) (hi1:i≤R.length) (hi2:∀ k,k < i→okAt (cRw R) k) (hqcpr34_1:(ltI ((i:Nat):Int) ((R.length:Nat):Int))=true) (j:Nat) (hj1:j≤xlN (cRw R) (i * 1)) (hj2:∀ k,k < j→0≤intAt (xlC (cRw R) (i * 1)) (k * 1)∧intAt (xlC (cRw R) (i * 1)) (k * 1)≤1000) (w:World) (hs:List Nat):Goes Try.prog 96 cprK44 (⟨[(1,(.ptr 0 0)),(4,(.v (.int .i64 (((i:Nat):Int))))),(5,(.v (.int .i64 ((j:Nat):Int))))],[],1,[(0,(.cells [(.xl (y) (R.length) 1 (cRw R)),(.v (.int .i64 (e)))] 50))]⟩) (BaseW.H w hs) (Hd.StepL 96 4 (fun j:{j:Nat // j≤xlN (cRw R) (i * 1)∧∀ k,k < j→0≤intAt (xlC (cRw R) (i * 1)) (k * 1)∧intAt (xlC (cRw R) (i * 1)) (k * 1)≤1000}=>⟨[(1,(.ptr 0 0)),(4,(.v (.int .i64 (((i:Nat):Int))))),(5,(.v (.int .i64 ((j.1:Nat):Int))))],[],1,[(0,(.cells [(.xl (y) (R.length) 1 (cRw R)),(.v (.int .i64 (e)))] 50))]⟩) (fun j:{j:Nat // j≤xlN (cRw R) (i * 1)∧∀ k,k < j→0≤intAt (xlC (cRw R) (i * 1)) (k * 1)∧intAt (xlC (cRw R) (i * 1)) (k * 1)≤1000}=>xlN (cRw R) (i * 1) - j.1) w (Hd.AfterB Try.prog 96 3 cprK36 w (Hd.StepC Try.prog 96 2 (fun i:{i:Nat // i≤R.length∧∀ k,k < i→okAt (cRw R) k}=>⟨[(1,(.ptr 0 0)),(4,(.v (.int .i64 ((i.1:Nat):Int))))],[],1,[(0,(.cells [(.xl (y) (R.length) 1 (cRw R)),(.v (.int .i64 (e)))] 50))]⟩) (fun i:{i:Nat // i≤R.length∧∀ k,k < i→okAt (cRw R) k}=>R.length - i.1) cprK23 w (OutH Try.prog Try.f38 96 (.int .i64 (ppE (cRw R) R.length e)) w) (⟨i,hi1,hi2⟩:{i:Nat // i≤R.length∧∀ k,k < i→okAt (cRw R) k}))) (⟨j,hj1,hj2⟩:{j:Nat // j≤xlN (cRw R) (i * 1)∧∀ k,k < j→0≤intAt (xlC (cRw R) (i * 1)) (k * 1)∧intAt (xlC (cRw R) (i * 1)) (k * 1)≤1000})):=by
 have ghqcpr7_1:=ltI_false hqcpr7_1
 have ghqcpr7_2:=ltI_false hqcpr7_2
 have ghqcpr7_3:=ltI_false hqcpr7_3
 have ghqcpr7_4:=ltI_false hqcpr7_4
 have ghqcpr18_1:=ltI_false hqcpr18_1
 have ghqcpr21_1:=ltI_false hqcpr21_1
 have ghqcpr21_2:=ltI_false hqcpr21_2
 have ghqcpr34_1:=ltI_true hqcpr34_1
 rcases Bool.eq_false_or_eq_true (ltI ((j:Nat):Int) ((xlN (cRw R) (i * 1):Nat):Int)) with hqcpr46_1 | hqcpr46_1
 ·skip
  have ghqcpr46_1:=ltI_true hqcpr46_1
  rcases Bool.eq_false_or_eq_true (ltI (intAt (xlC (cRw R) (i * 1)) (j * 1)) 0) with hqcpr46_2 | hqcpr46_2
  ·skip
   have ghqcpr46_2:=ltI_true hqcpr46_2
   exact goes_leafA isR_e (goes_told Try.checked.mixed (known_none) 200 (T':=⟨[(2,(.v (.int .i64 (.ofNat 2))))],[],1,[]⟩) (e:=.ret) (ps:=[i < R.length,loadL Try.prog (cRw R) (i * 1) 27=some (AV.xl (xlY (cRw R) (i * 1)) (xlN (cRw R) (i * 1)) 1 (xlC (cRw R) (i * 1))),ltI ((j:Nat):Int) ((xlN (cRw R) (i * 1):Nat):Int)=true,i < R.length,loadL Try.prog (cRw R) (i * 1) 27=some (AV.xl (xlY (cRw R) (i * 1)) (xlN (cRw R) (i * 1)) 1 (xlC (cRw R) (i * 1))),j < xlN (cRw R) (i * 1),loadL Try.prog (xlC (cRw R) (i * 1)) (j * 1) 2=some (AV.v (Value.int IntKind.i64 (intAt (xlC (cRw R) (i * 1)) (j * 1)))),ltI (intAt (xlC (cRw R) (i * 1)) (j * 1)) 0=true,true=true,true=true,true=true,true=true,true=true,true=true,true=true,true=true,true=true]) [.go,.go,.go,.go,.sym,.sym,.go,.go,.b true,.go,.go,.go,.sym,.sym,.go,.sym,.sym,.go,.go,.b true,.b true,.b true,.b true,.b true,.b true,.b true,.b true,.b true,.go,.b true,.go] (by kernel_rfl) (by kernel_rfl) ⟨(by omega),(by rw [Nat.mul_one]; exact cRw_load (by omega) 27 (Try.underlying27) rfl),hqcpr46_1,(by omega),(by rw [Nat.mul_one]; exact cRw_load (by omega) 27 (Try.underlying27) rfl),(by omega),(by obtain ⟨-,L9,e9,n9⟩:=cRw_isI (R:=R) (i:=i) (by omega); rw [e9,Nat.mul_one]; exact cI_load (by omega) 2 (Try.underlying2) rfl),hqcpr46_2,rfl,rfl,rfl,rfl,rfl,rfl,rfl,rfl,rfl,trivial⟩ rfl) (Hd.en_to (by intro h; cases h) (by intro h; cases h) (Hd.en_bo (by intro h; cases h) (by intro h; cases h) (Hd.en_so (by intro h; cases h) (by intro h; cases h) (Hd.en_eq (r:=(.int .i64 2)) (by rw [ppE_bad (c:=cRw R) (n:=R.length) (e:=e) (by omega) h0b (i:=i) (by omega) (fun h9=>by have h8:=afB_true.1 h9 j (by omega); omega)]) (Hd.en_ret (v:=(.v (.int .i64 (.ofNat 2)))) (by kernel_rfl) rfl)))))
  ·skip
   have ghqcpr46_2:=ltI_false hqcpr46_2
   rcases Bool.eq_false_or_eq_true (ltI 1000 (intAt (xlC (cRw R) (i * 1)) (j * 1))) with hqcpr46_3 | hqcpr46_3
   ·skip
    have ghqcpr46_3:=ltI_true hqcpr46_3
    exact goes_leafA isR_e (goes_told Try.checked.mixed (known_none) 200 (T':=⟨[(2,(.v (.int .i64 (.ofNat 2))))],[],1,[]⟩) (e:=.ret) (ps:=[i < R.length,loadL Try.prog (cRw R) (i * 1) 27=some (AV.xl (xlY (cRw R) (i * 1)) (xlN (cRw R) (i * 1)) 1 (xlC (cRw R) (i * 1))),ltI ((j:Nat):Int) ((xlN (cRw R) (i * 1):Nat):Int)=true,i < R.length,loadL Try.prog (cRw R) (i * 1) 27=some (AV.xl (xlY (cRw R) (i * 1)) (xlN (cRw R) (i * 1)) 1 (xlC (cRw R) (i * 1))),j < xlN (cRw R) (i * 1),loadL Try.prog (xlC (cRw R) (i * 1)) (j * 1) 2=some (AV.v (Value.int IntKind.i64 (intAt (xlC (cRw R) (i * 1)) (j * 1)))),ltI (intAt (xlC (cRw R) (i * 1)) (j * 1)) 0=false,false=false,false=false,false=false,i < R.length,false=false,loadL Try.prog (cRw R) (i * 1) 27=some (AV.xl (xlY (cRw R) (i * 1)) (xlN (cRw R) (i * 1)) 1 (xlC (cRw R) (i * 1))),false=false,false=false,j < xlN (cRw R) (i * 1),false=false,loadL Try.prog (xlC (cRw R) (i * 1)) (j * 1) 2=some (AV.v (Value.int IntKind.i64 (intAt (xlC (cRw R) (i * 1)) (j * 1)))),false=false,ltI 1000 (intAt (xlC (cRw R) (i * 1)) (j * 1))=true]) [.go,.go,.go,.go,.sym,.sym,.go,.go,.b true,.go,.go,.go,.sym,.sym,.go,.sym,.sym,.go,.go,.b false,.go,.b false,.go,.b false,.go,.b false,.sym,.b false,.sym,.b false,.go,.b false,.sym,.b false,.sym,.b false,.go,.go,.b true,.go] (by kernel_rfl) (by kernel_rfl) ⟨(by omega),(by rw [Nat.mul_one]; exact cRw_load (by omega) 27 (Try.underlying27) rfl),hqcpr46_1,(by omega),(by rw [Nat.mul_one]; exact cRw_load (by omega) 27 (Try.underlying27) rfl),(by omega),(by obtain ⟨-,L9,e9,n9⟩:=cRw_isI (R:=R) (i:=i) (by omega); rw [e9,Nat.mul_one]; exact cI_load (by omega) 2 (Try.underlying2) rfl),hqcpr46_2,rfl,rfl,rfl,(by omega),rfl,(by rw [Nat.mul_one]; exact cRw_load (by omega) 27 (Try.underlying27) rfl),rfl,rfl,(by omega),rfl,(by obtain ⟨-,L9,e9,n9⟩:=cRw_isI (R:=R) (i:=i) (by omega); rw [e9,Nat.mul_one]; exact cI_load (by omega) 2 (Try.underlying2) rfl),rfl,hqcpr46_3,trivial⟩ rfl) (Hd.en_to (by intro h; cases h) (by intro h; cases h) (Hd.en_bo (by intro h; cases h) (by intro h; cases h) (Hd.en_so (by intro h; cases h) (by intro h; cases h) (Hd.en_eq (r:=(.int .i64 2)) (by rw [ppE_bad (c:=cRw R) (n:=R.length) (e:=e) (by omega) h0b (i:=i) (by omega) (fun h9=>by have h8:=afB_true.1 h9 j (by omega); omega)]) (Hd.en_ret (v:=(.v (.int .i64 (.ofNat 2)))) (by kernel_rfl) rfl)))))
   ·skip
    have ghqcpr46_3:=ltI_false hqcpr46_3
    exact goes_leafA isN_e (goes_told Try.checked.mixed (known_none) 200 (T':=⟨[(1,(.ptr 0 0)),(4,(.v (.int .i64 (((i:Nat):Int))))),(5,(.v (.int .i64 (((j + 1):Nat):Int))))],[],1,[(0,(.cells [(.xl (y) (R.length) 1 (cRw R)),(.v (.int .i64 (e)))] 50))]⟩) (e:=.normal) (ps:=[i < R.length,loadL Try.prog (cRw R) (i * 1) 27=some (AV.xl (xlY (cRw R) (i * 1)) (xlN (cRw R) (i * 1)) 1 (xlC (cRw R) (i * 1))),ltI ((j:Nat):Int) ((xlN (cRw R) (i * 1):Nat):Int)=true,i < R.length,loadL Try.prog (cRw R) (i * 1) 27=some (AV.xl (xlY (cRw R) (i * 1)) (xlN (cRw R) (i * 1)) 1 (xlC (cRw R) (i * 1))),j < xlN (cRw R) (i * 1),loadL Try.prog (xlC (cRw R) (i * 1)) (j * 1) 2=some (AV.v (Value.int IntKind.i64 (intAt (xlC (cRw R) (i * 1)) (j * 1)))),ltI (intAt (xlC (cRw R) (i * 1)) (j * 1)) 0=false,false=false,false=false,false=false,i < R.length,false=false,loadL Try.prog (cRw R) (i * 1) 27=some (AV.xl (xlY (cRw R) (i * 1)) (xlN (cRw R) (i * 1)) 1 (xlC (cRw R) (i * 1))),false=false,false=false,j < xlN (cRw R) (i * 1),false=false,loadL Try.prog (xlC (cRw R) (i * 1)) (j * 1) 2=some (AV.v (Value.int IntKind.i64 (intAt (xlC (cRw R) (i * 1)) (j * 1)))),false=false,ltI 1000 (intAt (xlC (cRw R) (i * 1)) (j * 1))=false,inR IntKind.i64 (((j:Nat):Int) + 1)]) [.go,.go,.go,.go,.sym,.sym,.go,.go,.b true,.go,.go,.go,.sym,.sym,.go,.sym,.sym,.go,.go,.b false,.go,.b false,.go,.b false,.go,.b false,.sym,.b false,.sym,.b false,.go,.b false,.sym,.b false,.sym,.b false,.go,.go,.b false,.go,.go,.go] (by kernel_rfl) (by kernel_rfl) ⟨(by omega),(by rw [Nat.mul_one]; exact cRw_load (by omega) 27 (Try.underlying27) rfl),hqcpr46_1,(by omega),(by rw [Nat.mul_one]; exact cRw_load (by omega) 27 (Try.underlying27) rfl),(by omega),(by obtain ⟨-,L9,e9,n9⟩:=cRw_isI (R:=R) (i:=i) (by omega); rw [e9,Nat.mul_one]; exact cI_load (by omega) 2 (Try.underlying2) rfl),hqcpr46_2,rfl,rfl,rfl,(by omega),rfl,(by rw [Nat.mul_one]; exact cRw_load (by omega) 27 (Try.underlying27) rfl),rfl,rfl,(by omega),rfl,(by obtain ⟨-,L9,e9,n9⟩:=cRw_isI (R:=R) (i:=i) (by omega); rw [e9,Nat.mul_one]; exact cI_load (by omega) 2 (Try.underlying2) rfl),rfl,hqcpr46_3,(by have h9:=h0b i (by omega); unfold eqAt at h9; show -9223372036854775808≤_∧_≤9223372036854775807; constructor <;> omega),trivial⟩ rfl) (Hd.en_tn (⟨j + 1,by omega,(up_next (q:=fun k=>0≤intAt (xlC (cRw R) (i * 1)) (k * 1)∧intAt (xlC (cRw R) (i * 1)) (k * 1)≤1000) hj2 (by constructor <;> omega))⟩) (by show xlN (cRw R) (i * 1) - (j + 1) < xlN (cRw R) (i * 1) - j; omega) rfl)
 ·skip
  have ghqcpr46_1:=ltI_false hqcpr46_1
  obtain rfl:j=xlN (cRw R) (i * 1):=by omega
  exact goes_leafA isX_e (goes_told Try.checked.mixed (known_none) 200 (T':=⟨[(1,(.ptr 0 0)),(4,(.v (.int .i64 (((i:Nat):Int)))))],[],1,[(0,(.cells [(.xl (y) (R.length) 1 (cRw R)),(.v (.int .i64 (e)))] 50))]⟩) (e:=.exit 4) (ps:=[i < R.length,loadL Try.prog (cRw R) (i * 1) 27=some (AV.xl (xlY (cRw R) (i * 1)) (xlN (cRw R) (i * 1)) 1 (xlC (cRw R) (i * 1))),ltI ((xlN (cRw R) (i * 1):Nat):Int) ((xlN (cRw R) (i * 1):Nat):Int)=false]) [.go,.go,.go,.go,.sym,.sym,.go,.go,.b false] (by kernel_rfl) (by kernel_rfl) ⟨(by omega),(by rw [Nat.mul_one]; exact cRw_load (by omega) 27 (Try.underlying27) rfl),hqcpr46_1,trivial⟩ rfl) (Hd.en_tx (Hd.en_bn (cpr_47 y R e hqcpr7_1 hqcpr7_2 hqcpr7_3 hqcpr7_4 h0b hqcpr18_1 hqcpr21_1 hqcpr21_2 i hi1 hi2 hqcpr34_1 hj2 hqcpr46_1 w hs)))
theorem cpr_43 (y:Value) (R:List (Value×List Int)) (e:Int) (hqcpr7_1:(ltI (((R.length:Nat):Int)) 1)=false) (hqcpr7_2:(ltI 12 ((R.length:Nat):Int))=false) (hqcpr7_3:(ltI (((xlN (cRw R) (0 * 1):Nat):Int)) 1)=false) (hqcpr7_4:(ltI 8 ((xlN (cRw R) (0 * 1):Nat):Int))=false) (h0b:∀ k,k < (R.length)→eqAt (cRw R) k) (hqcpr18_1:(ltI ((R.length:Nat):Int) ((R.length:Nat):Int))=false) (hqcpr21_1:(ltI e 0)=false) (hqcpr21_2:(ltI 100 e)=false) (i:Nat) (hi1:i≤R.length) (hi2:∀ k,k < i→okAt (cRw R) k) (hqcpr34_1:(ltI ((i:Nat):Int) ((R.length:Nat):Int))=true) (w:World) (hs:List Nat):Goes Try.prog 96 cprK40 (⟨[(1,(.ptr 0 0)),(4,(.v (.int .i64 (((i:Nat):Int))))),(5,(.v (.int .i64 (.ofNat 0))))],[],1,[(0,(.cells [(.xl (y) (R.length) 1 (cRw R)),(.v (.int .i64 (e)))] 50))]⟩) (BaseW.H w hs) (Hd.AfterB Try.prog 96 3 cprK36 w (Hd.StepC Try.prog 96 2 (fun i:{i:Nat // i≤R.length∧∀ k,k < i→okAt (cRw R) k}=>⟨[(1,(.ptr 0 0)),(4,(.v (.int .i64 ((i.1:Nat):Int))))],[],1,[(0,(.cells [(.xl (y) (R.length) 1 (cRw R)),(.v (.int .i64 (e)))] 50))]⟩) (fun i:{i:Nat // i≤R.length∧∀ k,k < i→okAt (cRw R) k}=>R.length - i.1) cprK23 w (OutH Try.prog Try.f38 96 (.int .i64 (ppE (cRw R) R.length e)) w) (⟨i,hi1,hi2⟩:{i:Nat // i≤R.length∧∀ k,k < i→okAt (cRw R) k}))):=by
 have ghqcpr7_1:=ltI_false hqcpr7_1
 have ghqcpr7_2:=ltI_false hqcpr7_2
 have ghqcpr7_3:=ltI_false hqcpr7_3
 have ghqcpr7_4:=ltI_false hqcpr7_4
 have ghqcpr18_1:=ltI_false hqcpr18_1
 have ghqcpr21_1:=ltI_false hqcpr21_1
 have ghqcpr21_2:=ltI_false hqcpr21_2
 have ghqcpr34_1:=ltI_true hqcpr34_1
 exact Hd.goes_loopL (id:=4) (by kernel_rfl) (by kernel_rfl) (fun j:{j:Nat // j≤xlN (cRw R) (i * 1)∧∀ k,k < j→0≤intAt (xlC (cRw R) (i * 1)) (k * 1)∧intAt (xlC (cRw R) (i * 1)) (k * 1)≤1000}=>⟨[(1,(.ptr 0 0)),(4,(.v (.int .i64 (((i:Nat):Int))))),(5,(.v (.int .i64 ((j.1:Nat):Int))))],[],1,[(0,(.cells [(.xl (y) (R.length) 1 (cRw R)),(.v (.int .i64 (e)))] 50))]⟩) (fun j:{j:Nat // j≤xlN (cRw R) (i * 1)∧∀ k,k < j→0≤intAt (xlC (cRw R) (i * 1)) (k * 1)∧intAt (xlC (cRw R) (i * 1)) (k * 1)≤1000}=>xlN (cRw R) (i * 1) - j.1) (fun ix_ hs=>cpr_45 y R e hqcpr7_1 hqcpr7_2 hqcpr7_3 hqcpr7_4 h0b hqcpr18_1 hqcpr21_1 hqcpr21_2 i hi1 hi2 hqcpr34_1 ix_.1 ix_.2.1 ix_.2.2 w hs) ⟨0,Nat.zero_le _,(fun j hj=>by omega)⟩ hs
theorem cpr_42 (y:Value) (R:List (Value×List Int)) (e:Int) (hqcpr7_1:(ltI (((R.length:Nat):Int)) 1)=false) (hqcpr7_2:(ltI 12 ((R.length:Nat):Int))=false) (hqcpr7_3:(ltI (((xlN (cRw R) (0 * 1):Nat):Int)) 1)=false) (hqcpr7_4:(ltI 8 ((xlN (cRw R) (0 * 1):Nat):Int))=false) (h0b:∀ k,k < (R.length)→eqAt (cRw R) k) (hqcpr18_1:(ltI ((R.length:Nat):Int) ((R.length:Nat):Int))=false) (hqcpr21_1:(ltI e 0)=false) (hqcpr21_2:(ltI 100 e)=false) (i:Nat) (hi1:i≤R.length) (hi2:∀ k,k < i→okAt (cRw R) k) (hqcpr34_1:(ltI ((i:Nat):Int) ((R.length:Nat):Int))=true) (w:World) (hs:List Nat):Goes Try.prog 96 cprK40 (⟨[(1,(.ptr 0 0)),(4,(.v (.int .i64 (((i:Nat):Int))))),(5,(.v (.int .i64 (.ofNat 0))))],[],1,[(0,(.cells [(.xl (y) (R.length) 1 (cRw R)),(.v (.int .i64 (e)))] 50))]⟩) (BaseW.H w hs) (Hd.AfterB Try.prog 96 3 cprK36 w (Hd.StepC Try.prog 96 2 (fun i:{i:Nat // i≤R.length∧∀ k,k < i→okAt (cRw R) k}=>⟨[(1,(.ptr 0 0)),(4,(.v (.int .i64 ((i.1:Nat):Int))))],[],1,[(0,(.cells [(.xl (y) (R.length) 1 (cRw R)),(.v (.int .i64 (e)))] 50))]⟩) (fun i:{i:Nat // i≤R.length∧∀ k,k < i→okAt (cRw R) k}=>R.length - i.1) cprK23 w (OutH Try.prog Try.f38 96 (.int .i64 (ppE (cRw R) R.length e)) w) (⟨i,hi1,hi2⟩:{i:Nat // i≤R.length∧∀ k,k < i→okAt (cRw R) k}))):=by
 exact cpr_43 y R e hqcpr7_1 hqcpr7_2 hqcpr7_3 hqcpr7_4 h0b hqcpr18_1 hqcpr21_1 hqcpr21_2 i hi1 hi2 hqcpr34_1 w hs
theorem cpr_39 (y:Value) (R:List (Value×List Int)) (e:Int) (hqcpr7_1:(ltI (((R.length:Nat):Int)) 1)=false) (hqcpr7_2:(ltI 12 ((R.length:Nat):Int))=false) (hqcpr7_3:(ltI (((xlN (cRw R) (0 * 1):Nat):Int)) 1)=false) (hqcpr7_4:(ltI 8 ((xlN (cRw R) (0 * 1):Nat):Int))=false) (h0b:∀ k,k < (R.length)→eqAt (cRw R) k) (hqcpr18_1:(ltI ((R.length:Nat):Int) ((R.length:Nat):Int))=false) (hqcpr21_1:(ltI e 0)=false) (hqcpr21_2:(ltI 100 e)=false) (i:Nat) (hi1:i≤R.length) (hi2:∀ k,k < i→okAt (cRw R) k) (hqcpr34_1:(ltI ((i:Nat):Int) ((R.length:Nat):Int))=true) (w:World) (hs:List Nat):Goes Try.prog 96 cprK38 (⟨[(1,(.ptr 0 0)),(4,(.v (.int .i64 (((i:Nat):Int)))))],[],1,[(0,(.cells [(.xl (y) (R.length) 1 (cRw R)),(.v (.int .i64 (e)))] 50))]⟩) (BaseW.H w hs) (Hd.AfterB Try.prog 96 3 cprK36 w (Hd.StepC Try.prog 96 2 (fun i:{i:Nat // i≤R.length∧∀ k,k < i→okAt (cRw R) k}=>⟨[(1,(.ptr 0 0)),(4,(.v (.int .i64 ((i.1:Nat):Int))))],[],1,[(0,(.cells [(.xl (y) (R.length) 1 (cRw R)),(.v (.int .i64 (e)))] 50))]⟩) (fun i:{i:Nat // i≤R.length∧∀ k,k < i→okAt (cRw R) k}=>R.length - i.1) cprK23 w (OutH Try.prog Try.f38 96 (.int .i64 (ppE (cRw R) R.length e)) w) (⟨i,hi1,hi2⟩:{i:Nat // i≤R.length∧∀ k,k < i→okAt (cRw R) k}))):=by
 have ghqcpr7_1:=ltI_false hqcpr7_1
 have ghqcpr7_2:=ltI_false hqcpr7_2
 have ghqcpr7_3:=ltI_false hqcpr7_3
 have ghqcpr7_4:=ltI_false hqcpr7_4
 have ghqcpr18_1:=ltI_false hqcpr18_1
 have ghqcpr21_1:=ltI_false hqcpr21_1
 have ghqcpr21_2:=ltI_false hqcpr21_2
 have ghqcpr34_1:=ltI_true hqcpr34_1
 refine Hd.goes_seqA (by kernel_rfl) ?_
 exact goes_leafA isN_e (goes_told Try.checked.mixed (known_none) 200 (T':=⟨[(1,(.ptr 0 0)),(4,(.v (.int .i64 (((i:Nat):Int))))),(5,(.v (.int .i64 (.ofNat 0))))],[],1,[(0,(.cells [(.xl (y) (R.length) 1 (cRw R)),(.v (.int .i64 (e)))] 50))]⟩) (e:=.normal) (ps:=[]) [.go] (by kernel_rfl) (by kernel_rfl) trivial rfl) (Hd.en_n (cpr_42 y R e hqcpr7_1 hqcpr7_2 hqcpr7_3 hqcpr7_4 h0b hqcpr18_1 hqcpr21_1 hqcpr21_2 i hi1 hi2 hqcpr34_1 w hs))
theorem cpr_37 (y:Value) (R:List (Value×List Int)) (e:Int) (hqcpr7_1:(ltI (((R.length:Nat):Int)) 1)=false) (hqcpr7_2:(ltI 12 ((R.length:Nat):Int))=false) (hqcpr7_3:(ltI (((xlN (cRw R) (0 * 1):Nat):Int)) 1)=false) (hqcpr7_4:(ltI 8 ((xlN (cRw R) (0 * 1):Nat):Int))=false) (h0b:∀ k,k < (R.length)→eqAt (cRw R) k) (hqcpr18_1:(ltI ((R.length:Nat):Int) ((R.length:Nat):Int))=false) (hqcpr21_1:(ltI e 0)=false) (hqcpr21_2:(ltI 100 e)=false) (i:Nat) (hi1:i≤R.length) (hi2:∀ k,k < i→okAt (cRw R) k) (hqcpr34_1:(ltI ((i:Nat):Int) ((R.length:Nat):Int))=true) (w:World) (hs:List Nat):Goes Try.prog 96 (hdC cprK33) (⟨[(1,(.ptr 0 0)),(4,(.v (.int .i64 (((i:Nat):Int)))))],[],1,[(0,(.cells [(.xl (y) (R.length) 1 (cRw R)),(.v (.int .i64 (e)))] 50))]⟩) (BaseW.H w hs) (Hd.AfterN Try.prog 96 cprK36 w (Hd.StepC Try.prog 96 2 (fun i:{i:Nat // i≤R.length∧∀ k,k < i→okAt (cRw R) k}=>⟨[(1,(.ptr 0 0)),(4,(.v (.int .i64 ((i.1:Nat):Int))))],[],1,[(0,(.cells [(.xl (y) (R.length) 1 (cRw R)),(.v (.int .i64 (e)))] 50))]⟩) (fun i:{i:Nat // i≤R.length∧∀ k,k < i→okAt (cRw R) k}=>R.length - i.1) cprK23 w (OutH Try.prog Try.f38 96 (.int .i64 (ppE (cRw R) R.length e)) w) (⟨i,hi1,hi2⟩:{i:Nat // i≤R.length∧∀ k,k < i→okAt (cRw R) k}))):=by
 exact Hd.goes_blkA (id:=3) (by kernel_rfl) (by kernel_rfl) (cpr_39 y R e hqcpr7_1 hqcpr7_2 hqcpr7_3 hqcpr7_4 h0b hqcpr18_1 hqcpr21_1 hqcpr21_2 i hi1 hi2 hqcpr34_1 w hs)
theorem cpr_35 (y:Value) (R:List (Value×List Int)) (e:Int) (hqcpr7_1:(ltI (((R.length:Nat):Int)) 1)=false) (hqcpr7_2:(ltI 12 ((R.length:Nat):Int))=false) (hqcpr7_3:(ltI (((xlN (cRw R) (0 * 1):Nat):Int)) 1)=false) (hqcpr7_4:(ltI 8 ((xlN (cRw R) (0 * 1):Nat):Int))=false) (h0b:∀ k,k < (R.length)→eqAt (cRw R) k) (hqcpr18_1:(ltI ((R.length:Nat):Int) ((R.length:Nat):Int))=false) (hqcpr21_1:(ltI e 0)=false) (hqcpr21_2:(ltI 100 e)=false) (i:Nat) (hi1:i≤R.length) (hi2:∀ k,k < i→okAt (cRw R) k) (hqcpr34_1:(ltI ((i:Nat):Int) ((R.length:Nat):Int))=true) (w:World) (hs:List Nat):Goes Try.prog 96 cprK33 (⟨[(1,(.ptr 0 0)),(4,(.v (.int .i64 (((i:Nat):Int)))))],[],1,[(0,(.cells [(.xl (y) (R.length) 1 (cRw R)),(.v (.int .i64 (e)))] 50))]⟩) (BaseW.H w hs) (Hd.StepC Try.prog 96 2 (fun i:{i:Nat // i≤R.length∧∀ k,k < i→okAt (cRw R) k}=>⟨[(1,(.ptr 0 0)),(4,(.v (.int .i64 ((i.1:Nat):Int))))],[],1,[(0,(.cells [(.xl (y) (R.length) 1 (cRw R)),(.v (.int .i64 (e)))] 50))]⟩) (fun i:{i:Nat // i≤R.length∧∀ k,k < i→okAt (cRw R) k}=>R.length - i.1) cprK23 w (OutH Try.prog Try.f38 96 (.int .i64 (ppE (cRw R) R.length e)) w) (⟨i,hi1,hi2⟩:{i:Nat // i≤R.length∧∀ k,k < i→okAt (cRw R) k})):=by
 exact Hd.goes_seqA (by kernel_rfl) (cpr_37 y R e hqcpr7_1 hqcpr7_2 hqcpr7_3 hqcpr7_4 h0b hqcpr18_1 hqcpr21_1 hqcpr21_2 i hi1 hi2 hqcpr34_1 w hs)
theorem cpr_49 (y:Value) (R:List (Value×List Int)) (e:Int) (hqcpr7_1:(ltI (((R.length:Nat):Int)) 1)=false) (hqcpr7_2:(ltI 12 ((R.length:Nat):Int))=false) (hqcpr7_3:(ltI (((xlN (cRw R) (0 * 1):Nat):Int)) 1)=false) (hqcpr7_4:(ltI 8 ((xlN (cRw R) (0 * 1):Nat):Int))=false) (h0b:∀ k,k < (R.length)→eqAt (cRw R) k) (hqcpr18_1:(ltI ((R.length:Nat):Int) ((R.length:Nat):Int))=false) (hqcpr21_1:(ltI e 0)=false) (hqcpr21_2:(ltI 100 e)=false) (h2b:∀ k,k < (R.length)→okAt (cRw R) k) (hqcpr34_1:(ltI ((R.length:Nat):Int) ((R.length:Nat):Int))=false) (w:World) (hs:List Nat):Goes Try.prog 96 cprK23 (⟨[],[],1,[]⟩) (BaseW.H w hs) (OutH Try.prog Try.f38 96 (.int .i64 (ppE (cRw R) R.length e)) w):=by
 have ghqcpr7_1:=ltI_false hqcpr7_1
 have ghqcpr7_2:=ltI_false hqcpr7_2
 have ghqcpr7_3:=ltI_false hqcpr7_3
 have ghqcpr7_4:=ltI_false hqcpr7_4
 have ghqcpr34_1:=ltI_false hqcpr34_1
 have ghqcpr21_1:=ltI_false hqcpr21_1
 have ghqcpr21_2:=ltI_false hqcpr21_2
 exact goes_leafA isR_e (goes_told Try.checked.mixed (known_none) 200 (T':=⟨[(2,(.v (.int .i64 (.ofNat 0))))],[],1,[]⟩) (e:=.ret) (ps:=[]) [.go] (by kernel_rfl) (by kernel_rfl) trivial rfl) (Hd.en_eq (r:=(.int .i64 0)) (by rw [ppE_ok (c:=cRw R) (n:=R.length) (e:=e) (by omega) h0b h2b (by omega)]) (Hd.en_ret (v:=(.v (.int .i64 (.ofNat 0)))) (by kernel_rfl) rfl))
theorem cpr_32 (y:Value) (R:List (Value×List Int)) (e:Int) (hqcpr7_1:(ltI (((R.length:Nat):Int)) 1)=false) (hqcpr7_2:(ltI 12 ((R.length:Nat):Int))=false) (hqcpr7_3:(ltI (((xlN (cRw R) (0 * 1):Nat):Int)) 1)=false) (hqcpr7_4:(ltI 8 ((xlN (cRw R) (0 * 1):Nat):Int))=false) (h0b:∀ k,k < (R.length)→eqAt (cRw R) k) (hqcpr18_1:(ltI ((R.length:Nat):Int) ((R.length:Nat):Int))=false) (hqcpr21_1:(ltI e 0)=false) (hqcpr21_2:(ltI 100 e)=false) (i:Nat) (hi1:i≤R.length) (hi2:∀ k,k < i→okAt (cRw R) k) (w:World) (hs:List Nat):Goes Try.prog 96 cprK30 (⟨[(1,(.ptr 0 0)),(4,(.v (.int .i64 ((i:Nat):Int))))],[],1,[(0,(.cells [(.xl (y) (R.length) 1 (cRw R)),(.v (.int .i64 (e)))] 50))]⟩) (BaseW.H w hs) (Hd.StepC Try.prog 96 2 (fun i:{i:Nat // i≤R.length∧∀ k,k < i→okAt (cRw R) k}=>⟨[(1,(.ptr 0 0)),(4,(.v (.int .i64 ((i.1:Nat):Int))))],[],1,[(0,(.cells [(.xl (y) (R.length) 1 (cRw R)),(.v (.int .i64 (e)))] 50))]⟩) (fun i:{i:Nat // i≤R.length∧∀ k,k < i→okAt (cRw R) k}=>R.length - i.1) cprK23 w (OutH Try.prog Try.f38 96 (.int .i64 (ppE (cRw R) R.length e)) w) (⟨i,hi1,hi2⟩:{i:Nat // i≤R.length∧∀ k,k < i→okAt (cRw R) k})):=by
 have ghqcpr7_1:=ltI_false hqcpr7_1
 have ghqcpr7_2:=ltI_false hqcpr7_2
 have ghqcpr7_3:=ltI_false hqcpr7_3
 have ghqcpr7_4:=ltI_false hqcpr7_4
 have ghqcpr18_1:=ltI_false hqcpr18_1
 have ghqcpr21_1:=ltI_false hqcpr21_1
 have ghqcpr21_2:=ltI_false hqcpr21_2
 refine Hd.goes_seqA (by kernel_rfl) ?_
 rcases Bool.eq_false_or_eq_true (ltI ((i:Nat):Int) ((R.length:Nat):Int)) with hqcpr34_1 | hqcpr34_1
 ·skip
  have ghqcpr34_1:=ltI_true hqcpr34_1
  exact goes_leafA isN_e (goes_told Try.checked.mixed (known_none) 200 (T':=⟨[(1,(.ptr 0 0)),(4,(.v (.int .i64 (((i:Nat):Int)))))],[],1,[(0,(.cells [(.xl (y) (R.length) 1 (cRw R)),(.v (.int .i64 (e)))] 50))]⟩) (e:=.normal) (ps:=[ltI ((i:Nat):Int) ((R.length:Nat):Int)=true]) [.go,.go,.go,.go,.go,.b true] (by kernel_rfl) (by kernel_rfl) ⟨hqcpr34_1,trivial⟩ rfl) (Hd.en_n (cpr_35 y R e hqcpr7_1 hqcpr7_2 hqcpr7_3 hqcpr7_4 h0b hqcpr18_1 hqcpr21_1 hqcpr21_2 i hi1 hi2 hqcpr34_1 w hs))
 ·skip
  have ghqcpr34_1:=ltI_false hqcpr34_1
  obtain rfl:i=R.length:=by omega
  exact goes_leafA isX_e (goes_told Try.checked.mixed (known_none) 200 (T':=⟨[],[],1,[]⟩) (e:=.exit 2) (ps:=[ltI ((R.length:Nat):Int) ((R.length:Nat):Int)=false]) [.go,.go,.go,.go,.go,.b false] (by kernel_rfl) (by kernel_rfl) ⟨hqcpr34_1,trivial⟩ rfl) (Hd.en_o (by intro h; cases h) (Hd.en_sx (cpr_49 y R e hqcpr7_1 hqcpr7_2 hqcpr7_3 hqcpr7_4 h0b hqcpr18_1 hqcpr21_1 hqcpr21_2 hi2  hqcpr34_1 w hs)))
theorem cpr_29 (y:Value) (R:List (Value×List Int)) (e:Int) (hqcpr7_1:(ltI (((R.length:Nat):Int)) 1)=false) (hqcpr7_2:(ltI 12 ((R.length:Nat):Int))=false) (hqcpr7_3:(ltI (((xlN (cRw R) (0 * 1):Nat):Int)) 1)=false) (hqcpr7_4:(ltI 8 ((xlN (cRw R) (0 * 1):Nat):Int))=false) (h0b:∀ k,k < (R.length)→eqAt (cRw R) k) (hqcpr18_1:(ltI ((R.length:Nat):Int) ((R.length:Nat):Int))=false) (hqcpr21_1:(ltI e 0)=false) (hqcpr21_2:(ltI 100 e)=false) (w:World) (hs:List Nat):Goes Try.prog 96 cprK26 (⟨[(1,(.ptr 0 0)),(4,(.v (.int .i64 (.ofNat 0))))],[],1,[(0,(.cells [(.xl (y) (R.length) 1 (cRw R)),(.v (.int .i64 (e)))] 50))]⟩) (BaseW.H w hs) (Hd.AfterN Try.prog 96 cprK23 w (OutH Try.prog Try.f38 96 (.int .i64 (ppE (cRw R) R.length e)) w)):=by
 have ghqcpr7_1:=ltI_false hqcpr7_1
 have ghqcpr7_2:=ltI_false hqcpr7_2
 have ghqcpr7_3:=ltI_false hqcpr7_3
 have ghqcpr7_4:=ltI_false hqcpr7_4
 have ghqcpr18_1:=ltI_false hqcpr18_1
 have ghqcpr21_1:=ltI_false hqcpr21_1
 have ghqcpr21_2:=ltI_false hqcpr21_2
 exact Hd.goes_loopA (id:=2) (by kernel_rfl) (by kernel_rfl) (fun i:{i:Nat // i≤R.length∧∀ k,k < i→okAt (cRw R) k}=>⟨[(1,(.ptr 0 0)),(4,(.v (.int .i64 ((i.1:Nat):Int))))],[],1,[(0,(.cells [(.xl (y) (R.length) 1 (cRw R)),(.v (.int .i64 (e)))] 50))]⟩) (fun i:{i:Nat // i≤R.length∧∀ k,k < i→okAt (cRw R) k}=>R.length - i.1) (fun ix_ hs=>cpr_32 y R e hqcpr7_1 hqcpr7_2 hqcpr7_3 hqcpr7_4 h0b hqcpr18_1 hqcpr21_1 hqcpr21_2 ix_.1 ix_.2.1 ix_.2.2 w hs) ⟨0,Nat.zero_le _,(fun j hj=>by omega)⟩ hs
theorem cpr_28 (y:Value) (R:List (Value×List Int)) (e:Int) (hqcpr7_1:(ltI (((R.length:Nat):Int)) 1)=false) (hqcpr7_2:(ltI 12 ((R.length:Nat):Int))=false) (hqcpr7_3:(ltI (((xlN (cRw R) (0 * 1):Nat):Int)) 1)=false) (hqcpr7_4:(ltI 8 ((xlN (cRw R) (0 * 1):Nat):Int))=false) (h0b:∀ k,k < (R.length)→eqAt (cRw R) k) (hqcpr18_1:(ltI ((R.length:Nat):Int) ((R.length:Nat):Int))=false) (hqcpr21_1:(ltI e 0)=false) (hqcpr21_2:(ltI 100 e)=false) (w:World) (hs:List Nat):Goes Try.prog 96 cprK26 (⟨[(1,(.ptr 0 0)),(4,(.v (.int .i64 (.ofNat 0))))],[],1,[(0,(.cells [(.xl (y) (R.length) 1 (cRw R)),(.v (.int .i64 (e)))] 50))]⟩) (BaseW.H w hs) (Hd.AfterN Try.prog 96 cprK23 w (OutH Try.prog Try.f38 96 (.int .i64 (ppE (cRw R) R.length e)) w)):=by
 exact cpr_29 y R e hqcpr7_1 hqcpr7_2 hqcpr7_3 hqcpr7_4 h0b hqcpr18_1 hqcpr21_1 hqcpr21_2 w hs
theorem cpr_25 (y:Value) (R:List (Value×List Int)) (e:Int) (hqcpr7_1:(ltI (((R.length:Nat):Int)) 1)=false) (hqcpr7_2:(ltI 12 ((R.length:Nat):Int))=false) (hqcpr7_3:(ltI (((xlN (cRw R) (0 * 1):Nat):Int)) 1)=false) (hqcpr7_4:(ltI 8 ((xlN (cRw R) (0 * 1):Nat):Int))=false) (h0b:∀ k,k < (R.length)→eqAt (cRw R) k) (hqcpr18_1:(ltI ((R.length:Nat):Int) ((R.length:Nat):Int))=false) (hqcpr21_1:(ltI e 0)=false) (hqcpr21_2:(ltI 100 e)=false) (w:World) (hs:List Nat):Goes Try.prog 96 cprK24 (⟨[(1,(.ptr 0 0))],[],1,[(0,(.cells [(.xl (y) (R.length) 1 (cRw R)),(.v (.int .i64 (e)))] 50))]⟩) (BaseW.H w hs) (Hd.AfterN Try.prog 96 cprK23 w (OutH Try.prog Try.f38 96 (.int .i64 (ppE (cRw R) R.length e)) w)):=by
 have ghqcpr7_1:=ltI_false hqcpr7_1
 have ghqcpr7_2:=ltI_false hqcpr7_2
 have ghqcpr7_3:=ltI_false hqcpr7_3
 have ghqcpr7_4:=ltI_false hqcpr7_4
 have ghqcpr18_1:=ltI_false hqcpr18_1
 have ghqcpr21_1:=ltI_false hqcpr21_1
 have ghqcpr21_2:=ltI_false hqcpr21_2
 refine Hd.goes_seqA (by kernel_rfl) ?_
 exact goes_leafA isN_e (goes_told Try.checked.mixed (known_none) 200 (T':=⟨[(1,(.ptr 0 0)),(4,(.v (.int .i64 (.ofNat 0))))],[],1,[(0,(.cells [(.xl (y) (R.length) 1 (cRw R)),(.v (.int .i64 (e)))] 50))]⟩) (e:=.normal) (ps:=[]) [.go] (by kernel_rfl) (by kernel_rfl) trivial rfl) (Hd.en_n (cpr_28 y R e hqcpr7_1 hqcpr7_2 hqcpr7_3 hqcpr7_4 h0b hqcpr18_1 hqcpr21_1 hqcpr21_2 w hs))
theorem cpr_22 (y:Value) (R:List (Value×List Int)) (e:Int) (hqcpr7_1:(ltI (((R.length:Nat):Int)) 1)=false) (hqcpr7_2:(ltI 12 ((R.length:Nat):Int))=false) (hqcpr7_3:(ltI (((xlN (cRw R) (0 * 1):Nat):Int)) 1)=false) (hqcpr7_4:(ltI 8 ((xlN (cRw R) (0 * 1):Nat):Int))=false) (h0b:∀ k,k < (R.length)→eqAt (cRw R) k) (hqcpr18_1:(ltI ((R.length:Nat):Int) ((R.length:Nat):Int))=false) (hqcpr21_1:(ltI e 0)=false) (hqcpr21_2:(ltI 100 e)=false) (w:World) (hs:List Nat):Goes Try.prog 96 cprK20 (⟨[(1,(.ptr 0 0))],[],1,[(0,(.cells [(.xl (y) (R.length) 1 (cRw R)),(.v (.int .i64 (e)))] 50))]⟩) (BaseW.H w hs) (OutH Try.prog Try.f38 96 (.int .i64 (ppE (cRw R) R.length e)) w):=by
 exact Hd.goes_seqA (by kernel_rfl) (cpr_25 y R e hqcpr7_1 hqcpr7_2 hqcpr7_3 hqcpr7_4 h0b hqcpr18_1 hqcpr21_1 hqcpr21_2 w hs)
theorem cpr_19 (y:Value) (R:List (Value×List Int)) (e:Int) (hqcpr7_1:(ltI (((R.length:Nat):Int)) 1)=false) (hqcpr7_2:(ltI 12 ((R.length:Nat):Int))=false) (hqcpr7_3:(ltI (((xlN (cRw R) (0 * 1):Nat):Int)) 1)=false) (hqcpr7_4:(ltI 8 ((xlN (cRw R) (0 * 1):Nat):Int))=false) (h0b:∀ k,k < (R.length)→eqAt (cRw R) k) (hqcpr18_1:(ltI ((R.length:Nat):Int) ((R.length:Nat):Int))=false) (w:World) (hs:List Nat):Goes Try.prog 96 cprK9 (⟨[(1,(.ptr 0 0))],[],1,[(0,(.cells [(.xl (y) (R.length) 1 (cRw R)),(.v (.int .i64 (e)))] 50))]⟩) (BaseW.H w hs) (OutH Try.prog Try.f38 96 (.int .i64 (ppE (cRw R) R.length e)) w):=by
 have ghqcpr7_1:=ltI_false hqcpr7_1
 have ghqcpr7_2:=ltI_false hqcpr7_2
 have ghqcpr7_3:=ltI_false hqcpr7_3
 have ghqcpr7_4:=ltI_false hqcpr7_4
 have ghqcpr18_1:=ltI_false hqcpr18_1
 refine Hd.goes_seqA (by kernel_rfl) ?_
 rcases Bool.eq_false_or_eq_true (ltI e 0) with hqcpr21_1 | hqcpr21_1
 ·skip
  have ghqcpr21_1:=ltI_true hqcpr21_1
  exact goes_leafA isR_e (goes_told Try.checked.mixed (known_none) 200 (T':=⟨[(2,(.v (.int .i64 (.ofNat 2))))],[],1,[]⟩) (e:=.ret) (ps:=[ltI e 0=true,true=true,true=true,true=true]) [.go,.go,.go,.go,.b true,.b true,.b true,.go,.b true,.go] (by kernel_rfl) (by kernel_rfl) ⟨hqcpr21_1,rfl,rfl,rfl,trivial⟩ rfl) (Hd.en_o (by intro h; cases h) (Hd.en_eq (r:=(.int .i64 2)) (by rw [ppE_err (c:=cRw R) (n:=R.length) (e:=e) (by omega) h0b (by omega)]) (Hd.en_ret (v:=(.v (.int .i64 (.ofNat 2)))) (by kernel_rfl) rfl)))
 ·skip
  have ghqcpr21_1:=ltI_false hqcpr21_1
  rcases Bool.eq_false_or_eq_true (ltI 100 e) with hqcpr21_2 | hqcpr21_2
  ·skip
   have ghqcpr21_2:=ltI_true hqcpr21_2
   exact goes_leafA isR_e (goes_told Try.checked.mixed (known_none) 200 (T':=⟨[(2,(.v (.int .i64 (.ofNat 2))))],[],1,[]⟩) (e:=.ret) (ps:=[ltI e 0=false,false=false,false=false,ltI 100 e=true]) [.go,.go,.go,.go,.b false,.go,.b false,.go,.b false,.go,.go,.b true,.go] (by kernel_rfl) (by kernel_rfl) ⟨hqcpr21_1,rfl,rfl,hqcpr21_2,trivial⟩ rfl) (Hd.en_o (by intro h; cases h) (Hd.en_eq (r:=(.int .i64 2)) (by rw [ppE_err (c:=cRw R) (n:=R.length) (e:=e) (by omega) h0b (by omega)]) (Hd.en_ret (v:=(.v (.int .i64 (.ofNat 2)))) (by kernel_rfl) rfl)))
  ·skip
   have ghqcpr21_2:=ltI_false hqcpr21_2
   exact goes_leafA isN_e (goes_told Try.checked.mixed (known_none) 200 (T':=⟨[(1,(.ptr 0 0))],[],1,[(0,(.cells [(.xl (y) (R.length) 1 (cRw R)),(.v (.int .i64 (e)))] 50))]⟩) (e:=.normal) (ps:=[ltI e 0=false,false=false,false=false,ltI 100 e=false]) [.go,.go,.go,.go,.b false,.go,.b false,.go,.b false,.go,.go,.b false] (by kernel_rfl) (by kernel_rfl) ⟨hqcpr21_1,rfl,rfl,hqcpr21_2,trivial⟩ rfl) (Hd.en_n (cpr_22 y R e hqcpr7_1 hqcpr7_2 hqcpr7_3 hqcpr7_4 h0b hqcpr18_1 hqcpr21_1 hqcpr21_2 w hs))
theorem cpr_17 (y:Value) (R:List (Value×List Int)) (e:Int) (hqcpr7_1:(ltI (((R.length:Nat):Int)) 1)=false) (hqcpr7_2:(ltI 12 ((R.length:Nat):Int))=false) (hqcpr7_3:(ltI (((xlN (cRw R) (0 * 1):Nat):Int)) 1)=false) (hqcpr7_4:(ltI 8 ((xlN (cRw R) (0 * 1):Nat):Int))=false) (i:Nat) (hi1:i≤R.length) (hi2:∀ k,k < i→eqAt (cRw R) k) (w:World) (hs:List Nat):Goes Try.prog 96 cprK16 (⟨[(1,(.ptr 0 0)),(3,(.v (.int .i64 ((i:Nat):Int))))],[],1,[(0,(.cells [(.xl (y) (R.length) 1 (cRw R)),(.v (.int .i64 (e)))] 50))]⟩) (BaseW.H w hs) (Hd.StepC Try.prog 96 0 (fun i:{i:Nat // i≤R.length∧∀ k,k < i→eqAt (cRw R) k}=>⟨[(1,(.ptr 0 0)),(3,(.v (.int .i64 ((i.1:Nat):Int))))],[],1,[(0,(.cells [(.xl (y) (R.length) 1 (cRw R)),(.v (.int .i64 (e)))] 50))]⟩) (fun i:{i:Nat // i≤R.length∧∀ k,k < i→eqAt (cRw R) k}=>R.length - i.1) cprK9 w (OutH Try.prog Try.f38 96 (.int .i64 (ppE (cRw R) R.length e)) w) (⟨i,hi1,hi2⟩:{i:Nat // i≤R.length∧∀ k,k < i→eqAt (cRw R) k})):=by
 have ghqcpr7_1:=ltI_false hqcpr7_1
 have ghqcpr7_2:=ltI_false hqcpr7_2
 have ghqcpr7_3:=ltI_false hqcpr7_3
 have ghqcpr7_4:=ltI_false hqcpr7_4
 rcases Bool.eq_false_or_eq_true (ltI ((i:Nat):Int) ((R.length:Nat):Int)) with hqcpr18_1 | hqcpr18_1
 ·skip
  have ghqcpr18_1:=ltI_true hqcpr18_1
  rcases Bool.eq_false_or_eq_true (eqI ((xlN (cRw R) (i * 1):Nat):Int) ((xlN (cRw R) (0 * 1):Nat):Int)) with hqcpr18_2 | hqcpr18_2
  ·skip
   have ghqcpr18_2:=eqI_true hqcpr18_2
   exact goes_leafA isN_e (goes_told Try.checked.mixed (known_none) 200 (T':=⟨[(1,(.ptr 0 0)),(3,(.v (.int .i64 (((i + 1):Nat):Int))))],[],1,[(0,(.cells [(.xl (y) (R.length) 1 (cRw R)),(.v (.int .i64 (e)))] 50))]⟩) (e:=.normal) (ps:=[ltI ((i:Nat):Int) ((R.length:Nat):Int)=true,i < R.length,loadL Try.prog (cRw R) (i * 1) 27=some (AV.xl (xlY (cRw R) (i * 1)) (xlN (cRw R) (i * 1)) 1 (xlC (cRw R) (i * 1))),0 < R.length,loadL Try.prog (cRw R) (0 * 1) 27=some (AV.xl (xlY (cRw R) (0 * 1)) (xlN (cRw R) (0 * 1)) 1 (xlC (cRw R) (0 * 1))),(!eqI ((xlN (cRw R) (i * 1):Nat):Int) ((xlN (cRw R) (0 * 1):Nat):Int))=false,inR IntKind.i64 (((i:Nat):Int) + 1)]) [.go,.go,.go,.go,.go,.b true,.go,.go,.go,.sym,.sym,.go,.go,.go,.sym,.sym,.go,.go,.b false,.go,.go,.go] (by kernel_rfl) (by kernel_rfl) ⟨hqcpr18_1,(by omega),(by rw [Nat.mul_one]; exact cRw_load (by omega) 27 (Try.underlying27) rfl),(by omega),(by rw [Nat.mul_one]; exact cRw_load (by omega) 27 (Try.underlying27) rfl),(by rw [hqcpr18_2]; rfl),(iRF2 (by omega) (by omega)),trivial⟩ rfl) (Hd.en_on (⟨i + 1,by omega,(up_next (q:=eqAt (cRw R)) hi2 (by unfold eqAt; omega))⟩) (by show R.length - (i + 1) < R.length - i; omega) rfl)
  ·skip
   have ghqcpr18_2:=eqI_false hqcpr18_2
   exact goes_leafA isR_e (goes_told Try.checked.mixed (known_none) 200 (T':=⟨[(2,(.v (.int .i64 (.ofNat 15))))],[],1,[]⟩) (e:=.ret) (ps:=[ltI ((i:Nat):Int) ((R.length:Nat):Int)=true,i < R.length,loadL Try.prog (cRw R) (i * 1) 27=some (AV.xl (xlY (cRw R) (i * 1)) (xlN (cRw R) (i * 1)) 1 (xlC (cRw R) (i * 1))),0 < R.length,loadL Try.prog (cRw R) (0 * 1) 27=some (AV.xl (xlY (cRw R) (0 * 1)) (xlN (cRw R) (0 * 1)) 1 (xlC (cRw R) (0 * 1))),(!eqI ((xlN (cRw R) (i * 1):Nat):Int) ((xlN (cRw R) (0 * 1):Nat):Int))=true]) [.go,.go,.go,.go,.go,.b true,.go,.go,.go,.sym,.sym,.go,.go,.go,.sym,.sym,.go,.go,.b true,.go] (by kernel_rfl) (by kernel_rfl) ⟨hqcpr18_1,(by omega),(by rw [Nat.mul_one]; exact cRw_load (by omega) 27 (Try.underlying27) rfl),(by omega),(by rw [Nat.mul_one]; exact cRw_load (by omega) 27 (Try.underlying27) rfl),(by rw [hqcpr18_2]; rfl),trivial⟩ rfl) (Hd.en_so (by intro h; cases h) (by intro h; cases h) (Hd.en_eq (r:=(.int .i64 15)) (by rw [ppE_len (c:=cRw R) (n:=R.length) (e:=e) (i:=i) (by omega) (by omega) (by unfold eqAt; omega)]) (Hd.en_ret (v:=(.v (.int .i64 (.ofNat 15)))) (by kernel_rfl) rfl)))
 ·skip
  have ghqcpr18_1:=ltI_false hqcpr18_1
  obtain rfl:i=R.length:=by omega
  exact goes_leafA isX_e (goes_told Try.checked.mixed (known_none) 200 (T':=⟨[(1,(.ptr 0 0))],[],1,[(0,(.cells [(.xl (y) (R.length) 1 (cRw R)),(.v (.int .i64 (e)))] 50))]⟩) (e:=.exit 0) (ps:=[ltI ((R.length:Nat):Int) ((R.length:Nat):Int)=false]) [.go,.go,.go,.go,.go,.b false] (by kernel_rfl) (by kernel_rfl) ⟨hqcpr18_1,trivial⟩ rfl) (Hd.en_sx (cpr_19 y R e hqcpr7_1 hqcpr7_2 hqcpr7_3 hqcpr7_4 hi2  hqcpr18_1 w hs))
theorem cpr_15 (y:Value) (R:List (Value×List Int)) (e:Int) (hqcpr7_1:(ltI (((R.length:Nat):Int)) 1)=false) (hqcpr7_2:(ltI 12 ((R.length:Nat):Int))=false) (hqcpr7_3:(ltI (((xlN (cRw R) (0 * 1):Nat):Int)) 1)=false) (hqcpr7_4:(ltI 8 ((xlN (cRw R) (0 * 1):Nat):Int))=false) (w:World) (hs:List Nat):Goes Try.prog 96 cprK12 (⟨[(1,(.ptr 0 0)),(3,(.v (.int .i64 (.ofNat 0))))],[],1,[(0,(.cells [(.xl (y) (R.length) 1 (cRw R)),(.v (.int .i64 (e)))] 50))]⟩) (BaseW.H w hs) (Hd.AfterN Try.prog 96 cprK9 w (OutH Try.prog Try.f38 96 (.int .i64 (ppE (cRw R) R.length e)) w)):=by
 have ghqcpr7_1:=ltI_false hqcpr7_1
 have ghqcpr7_2:=ltI_false hqcpr7_2
 have ghqcpr7_3:=ltI_false hqcpr7_3
 have ghqcpr7_4:=ltI_false hqcpr7_4
 exact Hd.goes_loopA (id:=0) (by kernel_rfl) (by kernel_rfl) (fun i:{i:Nat // i≤R.length∧∀ k,k < i→eqAt (cRw R) k}=>⟨[(1,(.ptr 0 0)),(3,(.v (.int .i64 ((i.1:Nat):Int))))],[],1,[(0,(.cells [(.xl (y) (R.length) 1 (cRw R)),(.v (.int .i64 (e)))] 50))]⟩) (fun i:{i:Nat // i≤R.length∧∀ k,k < i→eqAt (cRw R) k}=>R.length - i.1) (fun ix_ hs=>cpr_17 y R e hqcpr7_1 hqcpr7_2 hqcpr7_3 hqcpr7_4 ix_.1 ix_.2.1 ix_.2.2 w hs) ⟨0,Nat.zero_le _,(fun j hj=>by omega)⟩ hs
theorem cpr_14 (y:Value) (R:List (Value×List Int)) (e:Int) (hqcpr7_1:(ltI (((R.length:Nat):Int)) 1)=false) (hqcpr7_2:(ltI 12 ((R.length:Nat):Int))=false) (hqcpr7_3:(ltI (((xlN (cRw R) (0 * 1):Nat):Int)) 1)=false) (hqcpr7_4:(ltI 8 ((xlN (cRw R) (0 * 1):Nat):Int))=false) (w:World) (hs:List Nat):Goes Try.prog 96 cprK12 (⟨[(1,(.ptr 0 0)),(3,(.v (.int .i64 (.ofNat 0))))],[],1,[(0,(.cells [(.xl (y) (R.length) 1 (cRw R)),(.v (.int .i64 (e)))] 50))]⟩) (BaseW.H w hs) (Hd.AfterN Try.prog 96 cprK9 w (OutH Try.prog Try.f38 96 (.int .i64 (ppE (cRw R) R.length e)) w)):=by
 exact cpr_15 y R e hqcpr7_1 hqcpr7_2 hqcpr7_3 hqcpr7_4 w hs
theorem cpr_11 (y:Value) (R:List (Value×List Int)) (e:Int) (hqcpr7_1:(ltI (((R.length:Nat):Int)) 1)=false) (hqcpr7_2:(ltI 12 ((R.length:Nat):Int))=false) (hqcpr7_3:(ltI (((xlN (cRw R) (0 * 1):Nat):Int)) 1)=false) (hqcpr7_4:(ltI 8 ((xlN (cRw R) (0 * 1):Nat):Int))=false) (w:World) (hs:List Nat):Goes Try.prog 96 cprK10 (⟨[(1,(.ptr 0 0))],[],1,[(0,(.cells [(.xl (y) (R.length) 1 (cRw R)),(.v (.int .i64 (e)))] 50))]⟩) (BaseW.H w hs) (Hd.AfterN Try.prog 96 cprK9 w (OutH Try.prog Try.f38 96 (.int .i64 (ppE (cRw R) R.length e)) w)):=by
 have ghqcpr7_1:=ltI_false hqcpr7_1
 have ghqcpr7_2:=ltI_false hqcpr7_2
 have ghqcpr7_3:=ltI_false hqcpr7_3
 have ghqcpr7_4:=ltI_false hqcpr7_4
 refine Hd.goes_seqA (by kernel_rfl) ?_
 exact goes_leafA isN_e (goes_told Try.checked.mixed (known_none) 200 (T':=⟨[(1,(.ptr 0 0)),(3,(.v (.int .i64 (.ofNat 0))))],[],1,[(0,(.cells [(.xl (y) (R.length) 1 (cRw R)),(.v (.int .i64 (e)))] 50))]⟩) (e:=.normal) (ps:=[]) [.go] (by kernel_rfl) (by kernel_rfl) trivial rfl) (Hd.en_n (cpr_14 y R e hqcpr7_1 hqcpr7_2 hqcpr7_3 hqcpr7_4 w hs))
theorem cpr_8 (y:Value) (R:List (Value×List Int)) (e:Int) (hqcpr7_1:(ltI (((R.length:Nat):Int)) 1)=false) (hqcpr7_2:(ltI 12 ((R.length:Nat):Int))=false) (hqcpr7_3:(ltI (((xlN (cRw R) (0 * 1):Nat):Int)) 1)=false) (hqcpr7_4:(ltI 8 ((xlN (cRw R) (0 * 1):Nat):Int))=false) (w:World) (hs:List Nat):Goes Try.prog 96 cprK6 (⟨[(1,(.ptr 0 0))],[],1,[(0,(.cells [(.xl (y) (R.length) 1 (cRw R)),(.v (.int .i64 (e)))] 50))]⟩) (BaseW.H w hs) (OutH Try.prog Try.f38 96 (.int .i64 (ppE (cRw R) R.length e)) w):=by
 exact Hd.goes_seqA (by kernel_rfl) (cpr_11 y R e hqcpr7_1 hqcpr7_2 hqcpr7_3 hqcpr7_4 w hs)
theorem cpr_5 (y:Value) (R:List (Value×List Int)) (e:Int) (w:World) (hs:List Nat):Goes Try.prog 96 cprK3 (⟨[(1,(.ptr 0 0))],[],1,[(0,(.cells [(.xl (y) (R.length) 1 (cRw R)),(.v (.int .i64 (e)))] 50))]⟩) (BaseW.H w hs) (OutH Try.prog Try.f38 96 (.int .i64 (ppE (cRw R) R.length e)) w):=by
 refine Hd.goes_seqA (by kernel_rfl) ?_
 rcases Bool.eq_false_or_eq_true (ltI (((R.length:Nat):Int)) 1) with hqcpr7_1 | hqcpr7_1
 ·skip
  have ghqcpr7_1:=ltI_true hqcpr7_1
  exact goes_leafA isR_e (goes_told Try.checked.mixed (known_none) 200 (T':=⟨[(2,(.v (.int .i64 (.ofNat 6))))],[],1,[]⟩) (e:=.ret) (ps:=[ltI (((R.length:Nat):Int)) 1=true,true=true,true=true,true=true,true=true,true=true,true=true,true=true,true=true,true=true,true=true,true=true,true=true,true=true,true=true,true=true,true=true]) [.go,.go,.go,.go,.go,.b true,.b true,.b true,.b true,.go,.go,.b true,.b true,.b true,.b true,.b true,.b true,.go,.go,.b true,.b true,.b true,.b true,.b true,.b true,.go,.b true,.go] (by kernel_rfl) (by kernel_rfl) ⟨hqcpr7_1,rfl,rfl,rfl,rfl,rfl,rfl,rfl,rfl,rfl,rfl,rfl,rfl,rfl,rfl,rfl,rfl,trivial⟩ rfl) (Hd.en_o (by intro h; cases h) (Hd.en_eq (r:=(.int .i64 6)) (by rw [ppE_many (c:=cRw R) (n:=R.length) (e:=e) (by omega)]) (Hd.en_ret (v:=(.v (.int .i64 (.ofNat 6)))) (by kernel_rfl) rfl)))
 ·skip
  have ghqcpr7_1:=ltI_false hqcpr7_1
  rcases Bool.eq_false_or_eq_true (ltI 12 ((R.length:Nat):Int)) with hqcpr7_2 | hqcpr7_2
  ·skip
   have ghqcpr7_2:=ltI_true hqcpr7_2
   exact goes_leafA isR_e (goes_told Try.checked.mixed (known_none) 200 (T':=⟨[(2,(.v (.int .i64 (.ofNat 6))))],[],1,[]⟩) (e:=.ret) (ps:=[ltI (((R.length:Nat):Int)) 1=false,false=false,false=false,false=false,ltI 12 ((R.length:Nat):Int)=true,true=true,true=true,true=true,true=true,true=true,true=true,true=true,true=true,true=true,true=true,true=true,true=true]) [.go,.go,.go,.go,.go,.b false,.go,.b false,.go,.b false,.go,.b false,.go,.go,.go,.b true,.b true,.b true,.b true,.b true,.b true,.go,.go,.b true,.b true,.b true,.b true,.b true,.b true,.go,.b true,.go] (by kernel_rfl) (by kernel_rfl) ⟨hqcpr7_1,rfl,rfl,rfl,hqcpr7_2,rfl,rfl,rfl,rfl,rfl,rfl,rfl,rfl,rfl,rfl,rfl,rfl,trivial⟩ rfl) (Hd.en_o (by intro h; cases h) (Hd.en_eq (r:=(.int .i64 6)) (by rw [ppE_many (c:=cRw R) (n:=R.length) (e:=e) (by omega)]) (Hd.en_ret (v:=(.v (.int .i64 (.ofNat 6)))) (by kernel_rfl) rfl)))
  ·skip
   have ghqcpr7_2:=ltI_false hqcpr7_2
   rcases Bool.eq_false_or_eq_true (ltI (((xlN (cRw R) (0 * 1):Nat):Int)) 1) with hqcpr7_3 | hqcpr7_3
   ·skip
    have ghqcpr7_3:=ltI_true hqcpr7_3
    exact goes_leafA isR_e (goes_told Try.checked.mixed (known_none) 200 (T':=⟨[(2,(.v (.int .i64 (.ofNat 6))))],[],1,[]⟩) (e:=.ret) (ps:=[ltI (((R.length:Nat):Int)) 1=false,false=false,false=false,false=false,ltI 12 ((R.length:Nat):Int)=false,false=false,false=false,0 < R.length,false=false,loadL Try.prog (cRw R) (0 * 1) 27=some (AV.xl (xlY (cRw R) (0 * 1)) (xlN (cRw R) (0 * 1)) 1 (xlC (cRw R) (0 * 1))),false=false,false=false,ltI (((xlN (cRw R) (0 * 1):Nat):Int)) 1=true,true=true,true=true,true=true,true=true,true=true,true=true]) [.go,.go,.go,.go,.go,.b false,.go,.b false,.go,.b false,.go,.b false,.go,.go,.go,.b false,.go,.b false,.go,.b false,.sym,.b false,.sym,.b false,.go,.b false,.go,.go,.go,.b true,.b true,.b true,.b true,.b true,.b true,.go,.b true,.go] (by kernel_rfl) (by kernel_rfl) ⟨hqcpr7_1,rfl,rfl,rfl,hqcpr7_2,rfl,rfl,(by omega),rfl,(by rw [Nat.mul_one]; exact cRw_load (by omega) 27 (Try.underlying27) rfl),rfl,rfl,hqcpr7_3,rfl,rfl,rfl,rfl,rfl,rfl,trivial⟩ rfl) (Hd.en_o (by intro h; cases h) (Hd.en_eq (r:=(.int .i64 6)) (by rw [ppE_many (c:=cRw R) (n:=R.length) (e:=e) (by omega)]) (Hd.en_ret (v:=(.v (.int .i64 (.ofNat 6)))) (by kernel_rfl) rfl)))
   ·skip
    have ghqcpr7_3:=ltI_false hqcpr7_3
    rcases Bool.eq_false_or_eq_true (ltI 8 ((xlN (cRw R) (0 * 1):Nat):Int)) with hqcpr7_4 | hqcpr7_4
    ·skip
     have ghqcpr7_4:=ltI_true hqcpr7_4
     exact goes_leafA isR_e (goes_told Try.checked.mixed (known_none) 200 (T':=⟨[(2,(.v (.int .i64 (.ofNat 6))))],[],1,[]⟩) (e:=.ret) (ps:=[ltI (((R.length:Nat):Int)) 1=false,false=false,false=false,false=false,ltI 12 ((R.length:Nat):Int)=false,false=false,false=false,0 < R.length,false=false,loadL Try.prog (cRw R) (0 * 1) 27=some (AV.xl (xlY (cRw R) (0 * 1)) (xlN (cRw R) (0 * 1)) 1 (xlC (cRw R) (0 * 1))),false=false,false=false,ltI (((xlN (cRw R) (0 * 1):Nat):Int)) 1=false,false=false,false=false,0 < R.length,false=false,loadL Try.prog (cRw R) (0 * 1) 27=some (AV.xl (xlY (cRw R) (0 * 1)) (xlN (cRw R) (0 * 1)) 1 (xlC (cRw R) (0 * 1))),false=false,false=false,ltI 8 ((xlN (cRw R) (0 * 1):Nat):Int)=true]) [.go,.go,.go,.go,.go,.b false,.go,.b false,.go,.b false,.go,.b false,.go,.go,.go,.b false,.go,.b false,.go,.b false,.sym,.b false,.sym,.b false,.go,.b false,.go,.go,.go,.b false,.go,.b false,.go,.b false,.sym,.b false,.sym,.b false,.go,.b false,.go,.go,.b true,.go] (by kernel_rfl) (by kernel_rfl) ⟨hqcpr7_1,rfl,rfl,rfl,hqcpr7_2,rfl,rfl,(by omega),rfl,(by rw [Nat.mul_one]; exact cRw_load (by omega) 27 (Try.underlying27) rfl),rfl,rfl,hqcpr7_3,rfl,rfl,(by omega),rfl,(by rw [Nat.mul_one]; exact cRw_load (by omega) 27 (Try.underlying27) rfl),rfl,rfl,hqcpr7_4,trivial⟩ rfl) (Hd.en_o (by intro h; cases h) (Hd.en_eq (r:=(.int .i64 6)) (by rw [ppE_many (c:=cRw R) (n:=R.length) (e:=e) (by omega)]) (Hd.en_ret (v:=(.v (.int .i64 (.ofNat 6)))) (by kernel_rfl) rfl)))
    ·skip
     have ghqcpr7_4:=ltI_false hqcpr7_4
     exact goes_leafA isN_e (goes_told Try.checked.mixed (known_none) 200 (T':=⟨[(1,(.ptr 0 0))],[],1,[(0,(.cells [(.xl (y) (R.length) 1 (cRw R)),(.v (.int .i64 (e)))] 50))]⟩) (e:=.normal) (ps:=[ltI (((R.length:Nat):Int)) 1=false,false=false,false=false,false=false,ltI 12 ((R.length:Nat):Int)=false,false=false,false=false,0 < R.length,false=false,loadL Try.prog (cRw R) (0 * 1) 27=some (AV.xl (xlY (cRw R) (0 * 1)) (xlN (cRw R) (0 * 1)) 1 (xlC (cRw R) (0 * 1))),false=false,false=false,ltI (((xlN (cRw R) (0 * 1):Nat):Int)) 1=false,false=false,false=false,0 < R.length,false=false,loadL Try.prog (cRw R) (0 * 1) 27=some (AV.xl (xlY (cRw R) (0 * 1)) (xlN (cRw R) (0 * 1)) 1 (xlC (cRw R) (0 * 1))),false=false,false=false,ltI 8 ((xlN (cRw R) (0 * 1):Nat):Int)=false]) [.go,.go,.go,.go,.go,.b false,.go,.b false,.go,.b false,.go,.b false,.go,.go,.go,.b false,.go,.b false,.go,.b false,.sym,.b false,.sym,.b false,.go,.b false,.go,.go,.go,.b false,.go,.b false,.go,.b false,.sym,.b false,.sym,.b false,.go,.b false,.go,.go,.b false] (by kernel_rfl) (by kernel_rfl) ⟨hqcpr7_1,rfl,rfl,rfl,hqcpr7_2,rfl,rfl,(by omega),rfl,(by rw [Nat.mul_one]; exact cRw_load (by omega) 27 (Try.underlying27) rfl),rfl,rfl,hqcpr7_3,rfl,rfl,(by omega),rfl,(by rw [Nat.mul_one]; exact cRw_load (by omega) 27 (Try.underlying27) rfl),rfl,rfl,hqcpr7_4,trivial⟩ rfl) (Hd.en_n (cpr_8 y R e hqcpr7_1 hqcpr7_2 hqcpr7_3 hqcpr7_4 w hs))
theorem cpr_2 (y:Value) (R:List (Value×List Int)) (e:Int) (w:World) (hs:List Nat):Goes Try.prog 96 cprK1 (⟨[(0,(.agg [.xl y R.length 1 (cRw R),.v (.int .i64 e)]))],[],0,[]⟩) (BaseW.H w hs) (OutH Try.prog Try.f38 96 (.int .i64 (ppE (cRw R) R.length e)) w):=by
 refine Hd.goes_seqA (by kernel_rfl) ?_
 exact goes_leafA isN_e (goes_told Try.checked.mixed (known_none) 200 (T':=⟨[(1,(.ptr 0 0))],[],1,[(0,(.cells [(.xl (y) (R.length) 1 (cRw R)),(.v (.int .i64 (e)))] 50))]⟩) (e:=.normal) (ps:=[]) [.go,.go] (by kernel_rfl) (by kernel_rfl) trivial rfl) (Hd.en_n (cpr_5 y R e w hs))
theorem rpp_g (y:Value) (R:List (Value×List Int)) (e:Int):GivesA Try.prog 38 [(.agg [.xl y R.length 1 (cRw R),.v (.int .i64 e)])] (.int .i64 (ppE (cRw R) R.length e)) :=
 givesA_partsH 96 Try.func38 (by kernel_rfl) (by kernel_rfl) (by kernel_rfl) (fun w=>goes_less (by kernel_rfl) (by kernel_rfl) (by kernel_rfl) (by kernel_rfl) (cpr_2 y R e w []))
end
end Go.Proofs.Ytegmogadbnfbgaa
