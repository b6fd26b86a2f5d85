import Derived.Test.YtegmogadbnfbgaaN1
import Derived.Test.YtegmogadbnfbgaaF2a
set_option maxHeartbeats 4000000
set_option linter.all false
/- What is known of checks. -/
namespace Go.Proofs.Ytegmogadbnfbgaa
open Go Ev
noncomputable section
theorem iRN2 {a:Int} (h : -9223372036854775808≤a) (k:a≤9223372036854775807):inR .i64 a:=⟨h,k⟩
section
variable (E : List (Value × List (Int × Int))) (L : List (Int × Int)) (b : Nat) (y yl : Value)
@[reducible] def qN2_12:Nat×Ev.AV:=(3,(.v (.int .i64 L.length)))
@[reducible] def qN2_15:Nat×Ev.AV:=(5,(.v (.int .i64 b)))
@[reducible] def qN2_9:Nat×Ev.AB:=(0,(.cells [(.xl (y) (E.length) 1 (cQw E)),(.xl (yl) (L.length) 2 (cR L))] 25))
@[reducible] def qN2_1:Ev.Lit:=⟨[(1,(.ptr 0 0)),(qN2_12 L),(qN2_15 b),(6,(.v (.int .i64 (.ofNat 0))))],[],2,[(qN2_9 E L y yl)]⟩
@[reducible] def qN2_2:Ev.Lit:=⟨[(1,(.ptr 0 0)),(qN2_12 L),(qN2_15 b)],[],2,[(qN2_9 E L y yl)]⟩
@[reducible] def qN2_3:Ev.Lit:=⟨[(1,(.ptr 0 0)),(qN2_12 L),(qN2_15 b)],[],1,[(qN2_9 E L y yl)]⟩
@[reducible] def qN2_4:Ev.Lit:=⟨[(1,(.ptr 0 0)),(qN2_12 L),(5,(.v (.int .i64 (.ofNat 0))))],[],1,[(qN2_9 E L y yl)]⟩
@[reducible] def qN2_5:Ev.Lit:=⟨[(1,(.ptr 0 0)),(qN2_12 L),(4,(.v (.int .i64 (.ofNat 0))))],[],1,[(qN2_9 E L y yl)]⟩
@[reducible] def qN2_6:Ev.Lit:=⟨[(1,(.ptr 0 0)),(qN2_12 L)],[],1,[(qN2_9 E L y yl)]⟩
@[reducible] def qN2_16:Nat×Ev.AV:=(22,(.xl (y) (E.length) 1 (cQw E)))
@[reducible] def qN2_11:Nat×Ev.AV:=(23,(.v (.int .i64 E.length)))
@[reducible] def qN2_7:Ev.Lit:=⟨[(qN2_16 E y),(qN2_11 E),(24,(.v (.int .i64 (.ofNat 0))))],[],1,[]⟩
@[reducible] def qN2_8:Ev.Lit:=⟨[(1,(.ptr 0 0))],[],1,[(qN2_9 E L y yl)]⟩
@[reducible] def qN2_10:Ev.AV:=(.agg [.xl y E.length 1 (cQw E),.xl yl L.length 2 (cR L)])
@[reducible] def qN2_13:Ev.Lit:=⟨[(2,(.v (.int .i64 (.ofNat 15))))],[],1,[]⟩
@[reducible] def qN2_14:Ev.Lit:=⟨[(2,(.v (.int .i64 (.ofNat 6))))],[],1,[]⟩
@[reducible] def qN2_17:=(eqI E.length 3)
@[reducible] def qN2_18:Nat×Ev.AV:=(2,(.v (.int .i64 (.ofNat 2))))
end
def arS:List AV→Option (Res1×List Prop):=fun vs =>
 match vs with
 | [.v a,.xl y n k c]=>match numV a with
  | some m=>some (.val (.v (.bool (allB (rngAt m c) n))),[IsPr k n c,n≤1000])
  | none=>none
 | _=>none
def arO:OrcH:=extOrc 62 arS
theorem known_ar:Known Try.prog (clsO arO):=known_ext (fun vs r ps h hp=>by
 unfold arS at h
 split at h
 ·split at h
  ·rename_i m e1
   cases h
   obtain ⟨⟨rfl,P,rfl,rfl⟩,h1,-⟩:=hp
   rw [numV_eq e1]
   exact ⟨extL_cons (ext_v _) (extL_cons (ext_xl (extL_plain (cR_plain P))) extL_nil),_,rfl,ar_g _ P m h1⟩
  ·cases h
 ·cases h)
def IsEq (k:Nat) (c:List AV) (m:Nat):Prop:=k=1∧∃ E,c=cQw E∧m=E.length
def IsEi (k:Nat) (c:List AV) (m:Nat):Prop:=k=1∧∃ X,c=cRw X∧m=X.length
theorem extL_rows:∀ R:List (Value×List Int),ExtL (cRw R)
 | []=>extL_nil
 | r :: l=>extL_cons (ext_xl (extL_plain (cI_plain _))) (extL_rows l)
def ieqS:List AV→Option (Res1×List Prop):=fun vs =>
 match vs with
 | [.xl y m k c,.v a]=>match numV a with
  | some n=>some (.val (.v (.bool (eyB c m n.toNat))),[IsEq k c m,0≤n,m≤1000])
  | none=>none
 | _=>none
def ieqO:OrcH:=extOrc 61 ieqS
theorem known_ieq:Known Try.prog (clsO ieqO):=known_ext (fun vs r ps h hp=>by
 unfold ieqS at h
 split at h
 ·split at h
  ·rename_i n e1
   cases h
   obtain ⟨⟨rfl,E,rfl,rfl⟩,h0,h1,-⟩:=hp
   rw [numV_eq e1]
   obtain ⟨n,rfl⟩:∃ k:Nat,n=((k:Nat):Int):=⟨n.toNat,by omega⟩
   exact ⟨extL_cons (ext_xl (extL_rowsQ E)) (extL_cons (ext_v _) extL_nil),_,rfl,ieq_g _ E n h1⟩
  ·cases h
 ·cases h)
def ieiS:List AV→Option (Res1×List Prop):=fun vs =>
 match vs with
 | [.xl y m k c,.v a]=>match numV a with
  | some n=>some (.val (.v (.bool (eyB c m n.toNat))),[IsEi k c m,0≤n,m≤1000])
  | none=>none
 | _=>none
def ieiO:OrcH:=extOrc 76 ieiS
theorem known_iei:Known Try.prog (clsO ieiO):=known_ext (fun vs r ps h hp=>by
 unfold ieiS at h
 split at h
 ·split at h
  ·rename_i n e1
   cases h
   obtain ⟨⟨rfl,X,rfl,rfl⟩,h0,h1,-⟩:=hp
   rw [numV_eq e1]
   obtain ⟨n,rfl⟩:∃ k:Nat,n=((k:Nat):Int):=⟨n.toNat,by omega⟩
   exact ⟨extL_cons (ext_xl (extL_rows X)) (extL_cons (ext_v _) extL_nil),_,rfl,iei_g _ X n h1⟩
  ·cases h
 ·cases h)
def awS:List AV→Option (Res1×List Prop):=fun vs =>
 match vs with
 | [.xl y n k c,.xl z m j d]=>some (.val (.v (.bool (allB (wiAt c d) n))),[IsPr k n c,IsI j m d,n≤1000,n≤m])
 | _=>none
def awO:OrcH:=extOrc 77 awS
theorem known_aw:Known Try.prog (clsO awO):=known_ext (fun vs r ps h hp=>by
 unfold awS at h
 split at h
 ·cases h
  obtain ⟨⟨rfl,P,rfl,rfl⟩,⟨rfl,Y,rfl,rfl⟩,h1,h2,-⟩:=hp
  exact ⟨extL_cons (ext_xl (extL_plain (cR_plain P))) (extL_cons (ext_xl (extL_plain (cI_plain Y))) extL_nil),_,rfl,aw_g _ P _ Y h1 h2⟩
 ·cases h)
noncomputable def ccoK1:Code:=bodyC Try.f20
noncomputable def ccoK3:Code:=tlC ccoK1
noncomputable def ccoK6:Code:=tlC ccoK3
noncomputable def ccoK9:Code:=tlC ccoK6
noncomputable def ccoK12:Code:=tlC ccoK9
noncomputable def ccoK15:Code:=tlC ccoK12
noncomputable def ccoK16:Code:=(hdC ccoK12)
noncomputable def ccoK18:Code:=tlC ccoK16
noncomputable def ccoK22:Code:=loopC ccoK18
theorem cco_25 (y:Value) (E:List (Value×List (Int×Int))) (yl:Value) (L:List (Int×Int)) (hE:E.length≤1000) (hqcco7_1:(ltI L.length 1)=false) (hqcco7_2:(ltI 8 L.length)=false) (hqcco10_1:(eyB (cQw E) E.length L.length)=true) (hqcco13_1:(allB (rngAt 100 (cR L)) L.length)=true) (h0b:∀ k,k < (E.length)→allB (rngAt 100 (xlC (cQw E) (k * 1))) L.length=true) (hqcco24_1:(ltI E.length E.length)=false) (w:World) (hs:List Nat):Goes Try.prog 32 ccoK15 (⟨[],[],1,[]⟩) (BaseW.H w hs) (OutH Try.prog Try.f20 32 (.int .i64 (ccE (cQw E) E.length (cR L) L.length)) w):=by
 have hcl_L:=cR_len L
 have ghqcco7_1:=ltI_false hqcco7_1
 have ghqcco7_2:=ltI_false hqcco7_2
 have heq:=(eyB_true.1 hqcco10_1).2
 have he3:=(eyB_true.1 hqcco10_1).1
 have ghqcco24_1:=ltI_false hqcco24_1
 exact goes_leafA isR_e (goes_told Try.checked.mixed (known_or known_ar known_ieq) 200 (T':=⟨[(2,(.v (.int .i64 (.ofNat 0))))],[],1,[]⟩) (e:=.ret) (ps:=[]) [.go] (by kernel_rfl) (by kernel_rfl) trivial rfl) (Hd.en_eq (r:=(.int .i64 0)) (by rw [ccE_ok (cE:=cQw E) (m:=E.length) (cL:=cR L) (n:=L.length) (by omega) hqcco10_1 hqcco13_1 h0b]) (Hd.en_ret (v:=(.v (.int .i64 (.ofNat 0)))) (by kernel_rfl) rfl))
theorem cco_23 (y:Value) (E:List (Value×List (Int×Int))) (yl:Value) (L:List (Int×Int)) (hE:E.length≤1000) (hqcco7_1:(ltI L.length 1)=false) (hqcco7_2:(ltI 8 L.length)=false) (hqcco10_1:(eyB (cQw E) E.length L.length)=true) (hqcco13_1:(allB (rngAt 100 (cR L)) L.length)=true) (i:Nat) (hi1:i≤E.length) (hi2:∀ k,k < i→allB (rngAt 100 (xlC (cQw E) (k * 1))) L.length=true) (w:World) (hs:List Nat):Goes Try.prog 32 ccoK22 (⟨[(qN2_16 E y),(qN2_11 E),(24,(.v (.int .i64 i)))],[],1,[]⟩) (BaseW.H w hs) (Hd.StepC Try.prog 32 0 (fun i:{i:Nat // i≤E.length∧∀ k,k < i→allB (rngAt 100 (xlC (cQw E) (k * 1))) L.length=true}=>⟨[(qN2_16 E y),(qN2_11 E),(24,(.v (.int .i64 i.1)))],[],1,[]⟩) (fun i:{i:Nat // i≤E.length∧∀ k,k < i→allB (rngAt 100 (xlC (cQw E) (k * 1))) L.length=true}=>E.length - i.1) ccoK15 w (OutH Try.prog Try.f20 32 (.int .i64 (ccE (cQw E) E.length (cR L) L.length)) w) (⟨i,hi1,hi2⟩:{i:Nat // i≤E.length∧∀ k,k < i→allB (rngAt 100 (xlC (cQw E) (k * 1))) L.length=true})):=by
 have hcl_L:=cR_len L
 have ghqcco7_1:=ltI_false hqcco7_1
 have ghqcco7_2:=ltI_false hqcco7_2
 have heq:=(eyB_true.1 hqcco10_1).2
 have he3:=(eyB_true.1 hqcco10_1).1
 rcases Bool.eq_false_or_eq_true (ltI i E.length) with hqcco24_1 | hqcco24_1
 ·skip
  have ghqcco24_1:=ltI_true hqcco24_1
  rcases Bool.eq_false_or_eq_true (allB (rngAt 100 (xlC (cQw E) (i * 1))) (xlN (cQw E) (i * 1))) with hqcco24_2 | hqcco24_2
  ·skip
   exact goes_leafA isN_e (goes_told Try.checked.mixed (known_or known_ar known_ieq) 200 (T':=⟨[(qN2_16 E y),(qN2_11 E),(24,(.v (.int .i64 (((i + 1):Nat):Int))))],[],1,[]⟩) (e:=.normal) (ps:=[ltI i E.length=true,i < E.length,loadL Try.prog (cQw E) (i * 1) 23=some (AV.xl (xlY (cQw E) (i * 1)) (xlN (cQw E) (i * 1)) 2 (xlC (cQw E) (i * 1))),IsPr 2 (xlN (cQw E) (i * 1)) (xlC (cQw E) (i * 1)),xlN (cQw E) (i * 1)≤1000,(!allB (rngAt 100 (xlC (cQw E) (i * 1))) (xlN (cQw E) (i * 1)))=false,inR IntKind.i64 (((i:Nat):Int) + 1)]) [.go,.b true,.sym,.sym,.go,.go,.go,.b false,.go,.go] (by kernel_rfl) (by kernel_rfl) ⟨hqcco24_1,(by omega),(by rw [Nat.mul_one]; exact cQw_load (by omega) 23 (Try.underlying23) rfl),(cQw_isP (by omega)),(by have h9:=heq i (by omega); omega),(by rw [hqcco24_2]; rfl),(iRN2 (by omega) (by omega)),trivial⟩ rfl) (Hd.en_on (⟨i + 1,by omega,(up_next (q:=fun k=>allB (rngAt 100 (xlC (cQw E) (k * 1))) L.length=true) hi2 (by have h9:=heq i (by omega); rw [← h9]; exact hqcco24_2))⟩) (by show E.length - (i + 1) < E.length - i; omega) rfl)
  ·skip
   exact goes_leafA isR_e (goes_told Try.checked.mixed (known_or known_ar known_ieq) 200 (T':=⟨[qN2_18],[],1,[]⟩) (e:=.ret) (ps:=[ltI i E.length=true,i < E.length,loadL Try.prog (cQw E) (i * 1) 23=some (AV.xl (xlY (cQw E) (i * 1)) (xlN (cQw E) (i * 1)) 2 (xlC (cQw E) (i * 1))),IsPr 2 (xlN (cQw E) (i * 1)) (xlC (cQw E) (i * 1)),xlN (cQw E) (i * 1)≤1000,(!allB (rngAt 100 (xlC (cQw E) (i * 1))) (xlN (cQw E) (i * 1)))=true]) [.go,.b true,.sym,.sym,.go,.go,.go,.b true,.go] (by kernel_rfl) (by kernel_rfl) ⟨hqcco24_1,(by omega),(by rw [Nat.mul_one]; exact cQw_load (by omega) 23 (Try.underlying23) rfl),(cQw_isP (by omega)),(by have h9:=heq i (by omega); omega),(by rw [hqcco24_2]; rfl),trivial⟩ rfl) (Hd.en_so (by intro h; cases h) (by intro h; cases h) (Hd.en_eq (r:=(.int .i64 2)) (by rw [ccE_curve (cE:=cQw E) (m:=E.length) (cL:=cR L) (n:=L.length) (by omega) hqcco10_1 (i:=i) (by omega) (by have h9:=heq i (by omega); rw [← h9,hqcco24_2]; decide)]) (Hd.en_ret (v:=(.v (.int .i64 (.ofNat 2)))) (by kernel_rfl) rfl)))
 ·skip
  have ghqcco24_1:=ltI_false hqcco24_1
  obtain rfl:i=E.length:=by omega
  exact goes_leafA isX_e (goes_told Try.checked.mixed (known_or known_ar known_ieq) 200 (T':=⟨[],[],1,[]⟩) (e:=.exit 0) (ps:=[ltI E.length E.length=false]) [.go,.b false] (by kernel_rfl) (by kernel_rfl) ⟨hqcco24_1,trivial⟩ rfl) (Hd.en_sx (cco_25 y E yl L hE hqcco7_1 hqcco7_2 hqcco10_1 hqcco13_1 hi2  hqcco24_1 w hs))
theorem cco_21 (y:Value) (E:List (Value×List (Int×Int))) (yl:Value) (L:List (Int×Int)) (hE:E.length≤1000) (hqcco7_1:(ltI L.length 1)=false) (hqcco7_2:(ltI 8 L.length)=false) (hqcco10_1:(eyB (cQw E) E.length L.length)=true) (hqcco13_1:(allB (rngAt 100 (cR L)) L.length)=true) (w:World) (hs:List Nat):Goes Try.prog 32 ccoK18 ((qN2_7 E y)) (BaseW.H w hs) (Hd.AfterN Try.prog 32 ccoK15 w (OutH Try.prog Try.f20 32 (.int .i64 (ccE (cQw E) E.length (cR L) L.length)) w)):=by
 have hcl_L:=cR_len L
 have ghqcco7_1:=ltI_false hqcco7_1
 have ghqcco7_2:=ltI_false hqcco7_2
 have heq:=(eyB_true.1 hqcco10_1).2
 have he3:=(eyB_true.1 hqcco10_1).1
 exact Hd.goes_loopA (id:=0) (by kernel_rfl) (by kernel_rfl) (fun i:{i:Nat // i≤E.length∧∀ k,k < i→allB (rngAt 100 (xlC (cQw E) (k * 1))) L.length=true}=>⟨[(qN2_16 E y),(qN2_11 E),(24,(.v (.int .i64 i.1)))],[],1,[]⟩) (fun i:{i:Nat // i≤E.length∧∀ k,k < i→allB (rngAt 100 (xlC (cQw E) (k * 1))) L.length=true}=>E.length - i.1) (fun ix_ hs=>cco_23 y E yl L hE hqcco7_1 hqcco7_2 hqcco10_1 hqcco13_1 ix_.1 ix_.2.1 ix_.2.2 w hs) ⟨0,Nat.zero_le _,(fun j hj=>by omega)⟩ hs
theorem cco_20 (y:Value) (E:List (Value×List (Int×Int))) (yl:Value) (L:List (Int×Int)) (hE:E.length≤1000) (hqcco7_1:(ltI L.length 1)=false) (hqcco7_2:(ltI 8 L.length)=false) (hqcco10_1:(eyB (cQw E) E.length L.length)=true) (hqcco13_1:(allB (rngAt 100 (cR L)) L.length)=true) (w:World) (hs:List Nat):Goes Try.prog 32 ccoK18 ((qN2_7 E y)) (BaseW.H w hs) (Hd.AfterN Try.prog 32 ccoK15 w (OutH Try.prog Try.f20 32 (.int .i64 (ccE (cQw E) E.length (cR L) L.length)) w)):=by
 exact cco_21 y E yl L hE hqcco7_1 hqcco7_2 hqcco10_1 hqcco13_1 w hs
theorem cco_17 (y:Value) (E:List (Value×List (Int×Int))) (yl:Value) (L:List (Int×Int)) (hE:E.length≤1000) (hqcco7_1:(ltI L.length 1)=false) (hqcco7_2:(ltI 8 L.length)=false) (hqcco10_1:(eyB (cQw E) E.length L.length)=true) (hqcco13_1:(allB (rngAt 100 (cR L)) L.length)=true) (w:World) (hs:List Nat):Goes Try.prog 32 ccoK16 ((qN2_8 E L y yl)) (BaseW.H w hs) (Hd.AfterN Try.prog 32 ccoK15 w (OutH Try.prog Try.f20 32 (.int .i64 (ccE (cQw E) E.length (cR L) L.length)) w)):=by
 have hcl_L:=cR_len L
 have ghqcco7_1:=ltI_false hqcco7_1
 have ghqcco7_2:=ltI_false hqcco7_2
 have heq:=(eyB_true.1 hqcco10_1).2
 have he3:=(eyB_true.1 hqcco10_1).1
 refine Hd.goes_seqA (by kernel_rfl) ?_
 exact goes_leafA isN_e (goes_told Try.checked.mixed (known_or known_ar known_ieq) 200 (T':=(qN2_7 E y)) (e:=.normal) (ps:=[]) [.go,.go,.go,.go] (by kernel_rfl) (by kernel_rfl) trivial rfl) (Hd.en_n (cco_20 y E yl L hE hqcco7_1 hqcco7_2 hqcco10_1 hqcco13_1 w hs))
theorem cco_14 (y:Value) (E:List (Value×List (Int×Int))) (yl:Value) (L:List (Int×Int)) (hE:E.length≤1000) (hqcco7_1:(ltI L.length 1)=false) (hqcco7_2:(ltI 8 L.length)=false) (hqcco10_1:(eyB (cQw E) E.length L.length)=true) (hqcco13_1:(allB (rngAt 100 (cR L)) L.length)=true) (w:World) (hs:List Nat):Goes Try.prog 32 ccoK12 ((qN2_8 E L y yl)) (BaseW.H w hs) (OutH Try.prog Try.f20 32 (.int .i64 (ccE (cQw E) E.length (cR L) L.length)) w):=by
 exact Hd.goes_seqA (by kernel_rfl) (cco_17 y E yl L hE hqcco7_1 hqcco7_2 hqcco10_1 hqcco13_1 w hs)
theorem cco_11 (y:Value) (E:List (Value×List (Int×Int))) (yl:Value) (L:List (Int×Int)) (hE:E.length≤1000) (hqcco7_1:(ltI L.length 1)=false) (hqcco7_2:(ltI 8 L.length)=false) (hqcco10_1:(eyB (cQw E) E.length L.length)=true) (w:World) (hs:List Nat):Goes Try.prog 32 ccoK9 ((qN2_8 E L y yl)) (BaseW.H w hs) (OutH Try.prog Try.f20 32 (.int .i64 (ccE (cQw E) E.length (cR L) L.length)) w):=by
 have hcl_L:=cR_len L
 have ghqcco7_1:=ltI_false hqcco7_1
 have ghqcco7_2:=ltI_false hqcco7_2
 have heq:=(eyB_true.1 hqcco10_1).2
 have he3:=(eyB_true.1 hqcco10_1).1
 refine Hd.goes_seqA (by kernel_rfl) ?_
 rcases Bool.eq_false_or_eq_true (allB (rngAt 100 (cR L)) L.length) with hqcco13_1 | hqcco13_1
 ·skip
  exact goes_leafA isN_e (goes_told Try.checked.mixed (known_or known_ar known_ieq) 200 (T':=(qN2_8 E L y yl)) (e:=.normal) (ps:=[IsPr 2 L.length (cR L),L.length≤1000,(!allB (rngAt 100 (cR L)) L.length)=false]) [.go,.go,.go,.b false] (by kernel_rfl) (by kernel_rfl) ⟨⟨rfl,L,rfl,rfl⟩,(by omega),(by rw [hqcco13_1]; rfl),trivial⟩ rfl) (Hd.en_n (cco_14 y E yl L hE hqcco7_1 hqcco7_2 hqcco10_1 hqcco13_1 w hs))
 ·skip
  exact goes_leafA isR_e (goes_told Try.checked.mixed (known_or known_ar known_ieq) 200 (T':=⟨[qN2_18],[],1,[]⟩) (e:=.ret) (ps:=[IsPr 2 L.length (cR L),L.length≤1000,(!allB (rngAt 100 (cR L)) L.length)=true]) [.go,.go,.go,.b true,.go] (by kernel_rfl) (by kernel_rfl) ⟨⟨rfl,L,rfl,rfl⟩,(by omega),(by rw [hqcco13_1]; rfl),trivial⟩ rfl) (Hd.en_o (by intro h; cases h) (Hd.en_eq (r:=(.int .i64 2)) (by rw [ccE_lamp (cE:=cQw E) (m:=E.length) (cL:=cR L) (n:=L.length) (by omega) hqcco10_1 (by rw [hqcco13_1]; decide)]) (Hd.en_ret (v:=(.v (.int .i64 (.ofNat 2)))) (by kernel_rfl) rfl)))
theorem cco_8 (y:Value) (E:List (Value×List (Int×Int))) (yl:Value) (L:List (Int×Int)) (hE:E.length≤1000) (hqcco7_1:(ltI L.length 1)=false) (hqcco7_2:(ltI 8 L.length)=false) (w:World) (hs:List Nat):Goes Try.prog 32 ccoK6 ((qN2_8 E L y yl)) (BaseW.H w hs) (OutH Try.prog Try.f20 32 (.int .i64 (ccE (cQw E) E.length (cR L) L.length)) w):=by
 have hcl_L:=cR_len L
 have ghqcco7_1:=ltI_false hqcco7_1
 have ghqcco7_2:=ltI_false hqcco7_2
 refine Hd.goes_seqA (by kernel_rfl) ?_
 rcases Bool.eq_false_or_eq_true (eyB (cQw E) E.length L.length) with hqcco10_1 | hqcco10_1
 ·skip
  have heq:=(eyB_true.1 hqcco10_1).2
  have he3:=(eyB_true.1 hqcco10_1).1
  exact goes_leafA isN_e (goes_told Try.checked.mixed (known_or known_ar known_ieq) 200 (T':=(qN2_8 E L y yl)) (e:=.normal) (ps:=[IsEq 1 (cQw E) E.length,(0:Int)≤((L.length:Nat):Int),E.length≤1000,(!eyB (cQw E) E.length L.length)=false]) [.go,.go,.go,.go,.go,.go,.b false] (by kernel_rfl) (by kernel_rfl) ⟨⟨rfl,E,rfl,rfl⟩,(by omega),hE,(by rw [hqcco10_1]; rfl),trivial⟩ rfl) (Hd.en_n (cco_11 y E yl L hE hqcco7_1 hqcco7_2 hqcco10_1 w hs))
 ·skip
  exact goes_leafA isR_e (goes_told Try.checked.mixed (known_or known_ar known_ieq) 200 (T':=qN2_13) (e:=.ret) (ps:=[IsEq 1 (cQw E) E.length,(0:Int)≤((L.length:Nat):Int),E.length≤1000,(!eyB (cQw E) E.length L.length)=true]) [.go,.go,.go,.go,.go,.go,.b true,.go] (by kernel_rfl) (by kernel_rfl) ⟨⟨rfl,E,rfl,rfl⟩,(by omega),hE,(by rw [hqcco10_1]; rfl),trivial⟩ rfl) (Hd.en_o (by intro h; cases h) (Hd.en_eq (r:=(.int .i64 15)) (by rw [ccE_eye (cE:=cQw E) (m:=E.length) (cL:=cR L) (n:=L.length) (by omega) (by rw [hqcco10_1]; decide)]) (Hd.en_ret (v:=(.v (.int .i64 (.ofNat 15)))) (by kernel_rfl) rfl)))
theorem cco_5 (y:Value) (E:List (Value×List (Int×Int))) (yl:Value) (L:List (Int×Int)) (hE:E.length≤1000) (w:World) (hs:List Nat):Goes Try.prog 32 ccoK3 ((qN2_8 E L y yl)) (BaseW.H w hs) (OutH Try.prog Try.f20 32 (.int .i64 (ccE (cQw E) E.length (cR L) L.length)) w):=by
 have hcl_L:=cR_len L
 refine Hd.goes_seqA (by kernel_rfl) ?_
 rcases Bool.eq_false_or_eq_true (ltI L.length 1) with hqcco7_1 | hqcco7_1
 ·skip
  have ghqcco7_1:=ltI_true hqcco7_1
  exact goes_leafA isR_e (goes_told Try.checked.mixed (known_or known_ar known_ieq) 200 (T':=qN2_14) (e:=.ret) (ps:=[(!ltI L.length 1)=false,false=false,false=false,(!false)=true]) [.go,.go,.go,.go,.go,.go,.go,.go,.b false,.b false,.b false,.go,.go,.go,.b true,.go] (by kernel_rfl) (by kernel_rfl) ⟨(by rw [hqcco7_1]; rfl),rfl,rfl,rfl,trivial⟩ rfl) (Hd.en_o (by intro h; cases h) (Hd.en_eq (r:=(.int .i64 6)) (by rw [ccE_many (cE:=cQw E) (m:=E.length) (cL:=cR L) (n:=L.length) (by omega)]) (Hd.en_ret (v:=(.v (.int .i64 (.ofNat 6)))) (by kernel_rfl) rfl)))
 ·skip
  have ghqcco7_1:=ltI_false hqcco7_1
  rcases Bool.eq_false_or_eq_true (ltI 8 L.length) with hqcco7_2 | hqcco7_2
  ·skip
   have ghqcco7_2:=ltI_true hqcco7_2
   exact goes_leafA isR_e (goes_told Try.checked.mixed (known_or known_ar known_ieq) 200 (T':=qN2_14) (e:=.ret) (ps:=[(!ltI L.length 1)=true,true=true,true=true,(!!ltI 8 L.length)=true]) [.go,.go,.go,.go,.go,.go,.go,.go,.b true,.go,.b true,.go,.b true,.go,.go,.go,.go,.b true,.go] (by kernel_rfl) (by kernel_rfl) ⟨(by rw [hqcco7_1]; rfl),rfl,rfl,(by rw [hqcco7_2]; rfl),trivial⟩ rfl) (Hd.en_o (by intro h; cases h) (Hd.en_eq (r:=(.int .i64 6)) (by rw [ccE_many (cE:=cQw E) (m:=E.length) (cL:=cR L) (n:=L.length) (by omega)]) (Hd.en_ret (v:=(.v (.int .i64 (.ofNat 6)))) (by kernel_rfl) rfl)))
  ·skip
   have ghqcco7_2:=ltI_false hqcco7_2
   exact goes_leafA isN_e (goes_told Try.checked.mixed (known_or known_ar known_ieq) 200 (T':=(qN2_8 E L y yl)) (e:=.normal) (ps:=[(!ltI L.length 1)=true,true=true,true=true,(!!ltI 8 L.length)=false]) [.go,.go,.go,.go,.go,.go,.go,.go,.b true,.go,.b true,.go,.b true,.go,.go,.go,.go,.b false] (by kernel_rfl) (by kernel_rfl) ⟨(by rw [hqcco7_1]; rfl),rfl,rfl,(by rw [hqcco7_2]; rfl),trivial⟩ rfl) (Hd.en_n (cco_8 y E yl L hE hqcco7_1 hqcco7_2 w hs))
theorem cco_2 (y:Value) (E:List (Value×List (Int×Int))) (yl:Value) (L:List (Int×Int)) (hE:E.length≤1000) (w:World) (hs:List Nat):Goes Try.prog 32 ccoK1 (⟨[(0,(qN2_10 E L y yl))],[],0,[]⟩) (BaseW.H w hs) (OutH Try.prog Try.f20 32 (.int .i64 (ccE (cQw E) E.length (cR L) L.length)) w):=by
 have hcl_L:=cR_len L
 refine Hd.goes_seqA (by kernel_rfl) ?_
 exact goes_leafA isN_e (goes_told Try.checked.mixed (known_or known_ar known_ieq) 200 (T':=(qN2_8 E L y yl)) (e:=.normal) (ps:=[]) [.go,.go] (by kernel_rfl) (by kernel_rfl) trivial rfl) (Hd.en_n (cco_5 y E yl L hE w hs))
theorem cco_g (y:Value) (E:List (Value×List (Int×Int))) (yl:Value) (L:List (Int×Int)) (hE:E.length≤1000):GivesA Try.prog 20 [(qN2_10 E L y yl)] (.int .i64 (ccE (cQw E) E.length (cR L) L.length)) :=
 givesA_partsH 32 Try.func20 (by kernel_rfl) (by kernel_rfl) (by kernel_rfl) (fun w=>goes_less (by kernel_rfl) (by kernel_rfl) (by kernel_rfl) (by kernel_rfl) (cco_2 y E yl L hE w []))
noncomputable def ccrK1:Code:=bodyC Try.f21
noncomputable def ccrK3:Code:=tlC ccrK1
noncomputable def ccrK6:Code:=tlC ccrK3
noncomputable def ccrK9:Code:=tlC ccrK6
noncomputable def ccrK12:Code:=tlC ccrK9
noncomputable def ccrK15:Code:=tlC ccrK12
noncomputable def ccrK16:Code:=(hdC ccrK12)
noncomputable def ccrK18:Code:=tlC ccrK16
noncomputable def ccrK22:Code:=loopC ccrK18
noncomputable def ccrK26:Code:=tlC ccrK15
noncomputable def ccrK27:Code:=(hdC ccrK15)
noncomputable def ccrK29:Code:=tlC ccrK27
noncomputable def ccrK33:Code:=loopC ccrK29
noncomputable def ccrK36:Code:=tlC ccrK33
noncomputable def ccrK39:Code:=tlC ccrK36
noncomputable def ccrK41:Code:=blkB (hdC ccrK36)
noncomputable def ccrK43:Code:=tlC ccrK41
noncomputable def ccrK46:Code:=tlC ccrK43
noncomputable def ccrK50:Code:=loopC ccrK46
theorem ccr_53 (y:Value) (E:List (Value×List (Int×Int))) (yl:Value) (L:List (Int×Int)) (hE:E.length≤1000) (hqccr10_1:(ltI L.length 1)=false) (hqccr10_2:(ltI 8 L.length)=false) (hqccr13_1:(qN2_17 E)=true) (h0b:∀ k,k < (3)→xlN (cQw E) (k * 1)=L.length) (hqccr24_1:(ltI 3 3)=false) (b:Nat) (hb1:b≤L.length) (hb2:∀ k,k < b→rngAt 100 (cR L) k∧∀ i,i < 3→rngAt 100 (xlC (cQw E) (i * 1)) k) (hqccr37_1:(ltI b L.length)=true) (hqccr44_1:(ltI (intAt (cR L) (b * 2 + 0)) 0)=false) (hqccr44_2:(ltI (intAt (cR L) (b * 2 + 1)) (intAt (cR L) (b * 2 + 0)))=false) (hqccr44_3:(ltI 100 (intAt (cR L) (b * 2 + 1)))=false) (hi2:∀ k,k < (3)→rngAt 100 (xlC (cQw E) (k * 1)) b) (hqccr52_1:(ltI 3 3)=false) (w:World) (hs:List Nat):Goes Try.prog 58 ccrK39 ((qN2_2 E L b y yl)) (BaseW.H w hs) (Hd.StepC Try.prog 58 2 (fun b:{b:Nat // b≤L.length∧∀ k,k < b→rngAt 100 (cR L) k∧∀ i,i < 3→rngAt 100 (xlC (cQw E) (i * 1)) k}=>⟨[(1,(.ptr 0 0)),(qN2_12 L),(5,(.v (.int .i64 b.1)))],[],1,[(qN2_9 E L y yl)]⟩) (fun b:{b:Nat // b≤L.length∧∀ k,k < b→rngAt 100 (cR L) k∧∀ i,i < 3→rngAt 100 (xlC (cQw E) (i * 1)) k}=>L.length - b.1) ccrK26 w (OutH Try.prog Try.f21 58 (.int .i64 (ccE (cQw E) E.length (cR L) L.length)) w) (⟨b,hb1,hb2⟩:{b:Nat // b≤L.length∧∀ k,k < b→rngAt 100 (cR L) k∧∀ i,i < 3→rngAt 100 (xlC (cQw E) (i * 1)) k})):=by
 have hcl_L:=cR_len L
 have ghqccr10_1:=ltI_false hqccr10_1
 have ghqccr10_2:=ltI_false hqccr10_2
 have ghqccr13_1:=eqI_true hqccr13_1
 have ghqccr52_1:=ltI_false hqccr52_1
 have ghqccr37_1:=ltI_true hqccr37_1
 have ghqccr44_1:=ltI_false hqccr44_1
 have ghqccr44_2:=ltI_false hqccr44_2
 have ghqccr44_3:=ltI_false hqccr44_3
 exact goes_leafA isN_e (goes_cut Try.checked.mixed (known_none) 200 (T':=⟨[(1,(.ptr 0 0)),(qN2_12 L),(5,(.v (.int .i64 (((b + 1):Nat):Int))))],[],1,[(qN2_9 E L y yl)]⟩) (e:=.normal) (m:=2) (ps:=[inR IntKind.i64 (((b:Nat):Int) + 1)]) [.go,.go,.go] (by kernel_rfl) (by kernel_rfl) ⟨(iRN2 (by omega) (by omega)),trivial⟩ rfl (by show 1≤2; decide) ⟨⟨nb_ptr (by show 0 < 1; decide),nb_v _,nb_v _,trivial⟩,⟨⟨by show 0 < 1; decide,nbb_cells (nb_cons (nb_free (freeL_xl (freeL_plainQ _))) (nb_cons (nb_xl (cR_plain L)) (fun _ hz=>absurd hz List.not_mem_nil)))⟩,trivial⟩,rfl⟩) (Hd.en_on (⟨b + 1,by omega,(up_next (q:=fun k=>rngAt 100 (cR L) k∧∀ i,i < 3→rngAt 100 (xlC (cQw E) (i * 1)) k) hb2 ⟨by unfold rngAt; omega,hi2⟩)⟩) (by show L.length - (b + 1) < L.length - b; omega) rfl)
theorem ccr_51 (y:Value) (E:List (Value×List (Int×Int))) (yl:Value) (L:List (Int×Int)) (hE:E.length≤1000) (hqccr10_1:(ltI L.length 1)=false) (hqccr10_2:(ltI 8 L.length)=false) (hqccr13_1:(qN2_17 E)=true) (h0b:∀ k,k < (3)→xlN (cQw E) (k * 1)=L.length) (hqccr24_1:(ltI 3 3)=false) (b:Nat) (hb1:b≤L.length) (hb2:∀ k,k < b→rngAt 100 (cR L) k∧∀ i,i < 3→rngAt 100 (xlC (cQw E) (i * 1)) k) (hqccr37_1:(ltI b L.length)=true) (hqccr44_1:(ltI (intAt (cR L) (b * 2 + 0)) 0)=false) (hqccr44_2:(ltI (intAt (cR L) (b * 2 + 1)) (intAt (cR L) (b * 2 + 0)))=false) (hqccr44_3:(ltI 100 (intAt (cR L) (b * 2 + 1)))=false) (i:Nat) (hi1:i≤3) (hi2:∀ k,k < i→rngAt 100 (xlC (cQw E) (k * 1)) b) (w:World) (hs:List Nat):Goes Try.prog 58 ccrK50 (⟨[(1,(.ptr 0 0)),(qN2_12 L),(qN2_15 b),(6,(.v (.int .i64 i)))],[],2,[(qN2_9 E L y yl)]⟩) (BaseW.H w hs) (Hd.StepL 58 4 (fun i:{i:Nat // i≤3∧∀ k,k < i→rngAt 100 (xlC (cQw E) (k * 1)) b}=>⟨[(1,(.ptr 0 0)),(qN2_12 L),(qN2_15 b),(6,(.v (.int .i64 i.1)))],[],2,[(qN2_9 E L y yl)]⟩) (fun i:{i:Nat // i≤3∧∀ k,k < i→rngAt 100 (xlC (cQw E) (k * 1)) b}=>3 - i.1) w (Hd.AfterB Try.prog 58 3 ccrK39 w (Hd.StepC Try.prog 58 2 (fun b:{b:Nat // b≤L.length∧∀ k,k < b→rngAt 100 (cR L) k∧∀ i,i < 3→rngAt 100 (xlC (cQw E) (i * 1)) k}=>⟨[(1,(.ptr 0 0)),(qN2_12 L),(5,(.v (.int .i64 b.1)))],[],1,[(qN2_9 E L y yl)]⟩) (fun b:{b:Nat // b≤L.length∧∀ k,k < b→rngAt 100 (cR L) k∧∀ i,i < 3→rngAt 100 (xlC (cQw E) (i * 1)) k}=>L.length - b.1) ccrK26 w (OutH Try.prog Try.f21 58 (.int .i64 (ccE (cQw E) E.length (cR L) L.length)) w) (⟨b,hb1,hb2⟩:{b:Nat // b≤L.length∧∀ k,k < b→rngAt 100 (cR L) k∧∀ i,i < 3→rngAt 100 (xlC (cQw E) (i * 1)) k}))) (⟨i,hi1,hi2⟩:{i:Nat // i≤3∧∀ k,k < i→rngAt 100 (xlC (cQw E) (k * 1)) b})):=by
 have hcl_L:=cR_len L
 have ghqccr10_1:=ltI_false hqccr10_1
 have ghqccr10_2:=ltI_false hqccr10_2
 have ghqccr13_1:=eqI_true hqccr13_1
 have ghqccr24_1:=ltI_false hqccr24_1
 have ghqccr37_1:=ltI_true hqccr37_1
 have ghqccr44_1:=ltI_false hqccr44_1
 have ghqccr44_2:=ltI_false hqccr44_2
 have ghqccr44_3:=ltI_false hqccr44_3
 rcases Bool.eq_false_or_eq_true (ltI i 3) with hqccr52_1 | hqccr52_1
 ·skip
  have ghqccr52_1:=ltI_true hqccr52_1
  rcases Bool.eq_false_or_eq_true (ltI (intAt (xlC (cQw E) (i * 1)) (b * 2 + 0)) 0) with hqccr52_2 | hqccr52_2
  ·skip
   have ghqccr52_2:=ltI_true hqccr52_2
   exact goes_leafA isR_e (goes_told Try.checked.mixed (known_none) 200 (T':=⟨[qN2_18],[],3,[]⟩) (e:=.ret) (ps:=[ltI i 3=true,i < E.length,loadL Try.prog (cQw E) (i * 1) 23=some (AV.xl (xlY (cQw E) (i * 1)) (xlN (cQw E) (i * 1)) 2 (xlC (cQw E) (i * 1))),b < xlN (cQw E) (i * 1),loadL Try.prog (xlC (cQw E) (i * 1)) (b * 2) 65=some (AV.agg [AV.v (Value.int IntKind.i64 (intAt (xlC (cQw E) (i * 1)) (b * 2 + 0))),AV.v (Value.int IntKind.i64 (intAt (xlC (cQw E) (i * 1)) (b * 2 + 1)))]),(!ltI (intAt (xlC (cQw E) (i * 1)) (b * 2 + 0)) 0)=false,false=false,false=false,false=false,false=false,false=false,false=false,false=false,false=false,(!false)=true]) [.go,.go,.b true,.go,.go,.go,.sym,.sym,.go,.sym,.sym,.go,.go,.go,.go,.go,.go,.b false,.b false,.b false,.b false,.b false,.go,.go,.b false,.b false,.b false,.b false,.go,.go,.go,.b true,.go] (by kernel_rfl) (by kernel_rfl) ⟨hqccr52_1,(by omega),(by rw [Nat.mul_one]; exact cQw_load (by omega) 23 (Try.underlying23) rfl),(by have h8:=h0b i (by omega); omega),(by have h8:=h0b i (by omega); obtain ⟨-,P9,e9,n9⟩:=cQw_isP (R:=E) (i:=i) (by omega); rw [e9]; exact cR_load (by omega) 65 (Try.underlying65) rfl (inf:=(Try.prog.info? 65).getD default) (by kernel_rfl) (by kernel_rfl)),(by rw [hqccr52_2]; rfl),rfl,rfl,rfl,rfl,rfl,rfl,rfl,rfl,rfl,trivial⟩ rfl) (Hd.en_to (by intro h; cases h) (by intro h; cases h) (Hd.en_bo (by intro h; cases h) (by intro h; cases h) (Hd.en_so (by intro h; cases h) (by intro h; cases h) (Hd.en_eq (r:=(.int .i64 2)) (by rw [ccE_curve (cE:=cQw E) (m:=E.length) (cL:=cR L) (n:=L.length) (by omega) (eyB_true.2 ⟨by omega,fun i hi=>h0b i (by omega)⟩) (i:=i) (by omega) (fun h9=>by have h8:=allB_true.1 h9 b (by omega); unfold rngAt at h8; omega)]) (Hd.en_ret (v:=(.v (.int .i64 (.ofNat 2)))) (by kernel_rfl) rfl)))))
  ·skip
   have ghqccr52_2:=ltI_false hqccr52_2
   rcases Bool.eq_false_or_eq_true (ltI (intAt (xlC (cQw E) (i * 1)) (b * 2 + 1)) (intAt (xlC (cQw E) (i * 1)) (b * 2 + 0))) with hqccr52_3 | hqccr52_3
   ·skip
    have ghqccr52_3:=ltI_true hqccr52_3
    exact goes_leafA isR_e (goes_told Try.checked.mixed (known_none) 200 (T':=⟨[qN2_18],[],3,[]⟩) (e:=.ret) (ps:=[ltI i 3=true,i < E.length,loadL Try.prog (cQw E) (i * 1) 23=some (AV.xl (xlY (cQw E) (i * 1)) (xlN (cQw E) (i * 1)) 2 (xlC (cQw E) (i * 1))),b < xlN (cQw E) (i * 1),loadL Try.prog (xlC (cQw E) (i * 1)) (b * 2) 65=some (AV.agg [AV.v (Value.int IntKind.i64 (intAt (xlC (cQw E) (i * 1)) (b * 2 + 0))),AV.v (Value.int IntKind.i64 (intAt (xlC (cQw E) (i * 1)) (b * 2 + 1)))]),(!ltI (intAt (xlC (cQw E) (i * 1)) (b * 2 + 0)) 0)=true,true=true,true=true,true=true,true=true,(!ltI (intAt (xlC (cQw E) (i * 1)) (b * 2 + 1)) (intAt (xlC (cQw E) (i * 1)) (b * 2 + 0)))=false,false=false,false=false,false=false,(!false)=true]) [.go,.go,.b true,.go,.go,.go,.sym,.sym,.go,.sym,.sym,.go,.go,.go,.go,.go,.go,.b true,.go,.b true,.go,.b true,.go,.b true,.go,.b true,.go,.go,.go,.b false,.b false,.b false,.b false,.go,.go,.go,.b true,.go] (by kernel_rfl) (by kernel_rfl) ⟨hqccr52_1,(by omega),(by rw [Nat.mul_one]; exact cQw_load (by omega) 23 (Try.underlying23) rfl),(by have h8:=h0b i (by omega); omega),(by have h8:=h0b i (by omega); obtain ⟨-,P9,e9,n9⟩:=cQw_isP (R:=E) (i:=i) (by omega); rw [e9]; exact cR_load (by omega) 65 (Try.underlying65) rfl (inf:=(Try.prog.info? 65).getD default) (by kernel_rfl) (by kernel_rfl)),(by rw [hqccr52_2]; rfl),rfl,rfl,rfl,rfl,(by rw [hqccr52_3]; rfl),rfl,rfl,rfl,rfl,trivial⟩ rfl) (Hd.en_to (by intro h; cases h) (by intro h; cases h) (Hd.en_bo (by intro h; cases h) (by intro h; cases h) (Hd.en_so (by intro h; cases h) (by intro h; cases h) (Hd.en_eq (r:=(.int .i64 2)) (by rw [ccE_curve (cE:=cQw E) (m:=E.length) (cL:=cR L) (n:=L.length) (by omega) (eyB_true.2 ⟨by omega,fun i hi=>h0b i (by omega)⟩) (i:=i) (by omega) (fun h9=>by have h8:=allB_true.1 h9 b (by omega); unfold rngAt at h8; omega)]) (Hd.en_ret (v:=(.v (.int .i64 (.ofNat 2)))) (by kernel_rfl) rfl)))))
   ·skip
    have ghqccr52_3:=ltI_false hqccr52_3
    rcases Bool.eq_false_or_eq_true (ltI 100 (intAt (xlC (cQw E) (i * 1)) (b * 2 + 1))) with hqccr52_4 | hqccr52_4
    ·skip
     have ghqccr52_4:=ltI_true hqccr52_4
     exact goes_leafA isR_e (goes_told Try.checked.mixed (known_none) 200 (T':=⟨[qN2_18],[],3,[]⟩) (e:=.ret) (ps:=[ltI i 3=true,i < E.length,loadL Try.prog (cQw E) (i * 1) 23=some (AV.xl (xlY (cQw E) (i * 1)) (xlN (cQw E) (i * 1)) 2 (xlC (cQw E) (i * 1))),b < xlN (cQw E) (i * 1),loadL Try.prog (xlC (cQw E) (i * 1)) (b * 2) 65=some (AV.agg [AV.v (Value.int IntKind.i64 (intAt (xlC (cQw E) (i * 1)) (b * 2 + 0))),AV.v (Value.int IntKind.i64 (intAt (xlC (cQw E) (i * 1)) (b * 2 + 1)))]),(!ltI (intAt (xlC (cQw E) (i * 1)) (b * 2 + 0)) 0)=true,true=true,true=true,true=true,true=true,(!ltI (intAt (xlC (cQw E) (i * 1)) (b * 2 + 1)) (intAt (xlC (cQw E) (i * 1)) (b * 2 + 0)))=true,true=true,true=true,true=true,(!!ltI 100 (intAt (xlC (cQw E) (i * 1)) (b * 2 + 1)))=true]) [.go,.go,.b true,.go,.go,.go,.sym,.sym,.go,.sym,.sym,.go,.go,.go,.go,.go,.go,.b true,.go,.b true,.go,.b true,.go,.b true,.go,.b true,.go,.go,.go,.b true,.go,.b true,.go,.b true,.go,.b true,.go,.go,.go,.go,.b true,.go] (by kernel_rfl) (by kernel_rfl) ⟨hqccr52_1,(by omega),(by rw [Nat.mul_one]; exact cQw_load (by omega) 23 (Try.underlying23) rfl),(by have h8:=h0b i (by omega); omega),(by have h8:=h0b i (by omega); obtain ⟨-,P9,e9,n9⟩:=cQw_isP (R:=E) (i:=i) (by omega); rw [e9]; exact cR_load (by omega) 65 (Try.underlying65) rfl (inf:=(Try.prog.info? 65).getD default) (by kernel_rfl) (by kernel_rfl)),(by rw [hqccr52_2]; rfl),rfl,rfl,rfl,rfl,(by rw [hqccr52_3]; rfl),rfl,rfl,rfl,(by rw [hqccr52_4]; rfl),trivial⟩ rfl) (Hd.en_to (by intro h; cases h) (by intro h; cases h) (Hd.en_bo (by intro h; cases h) (by intro h; cases h) (Hd.en_so (by intro h; cases h) (by intro h; cases h) (Hd.en_eq (r:=(.int .i64 2)) (by rw [ccE_curve (cE:=cQw E) (m:=E.length) (cL:=cR L) (n:=L.length) (by omega) (eyB_true.2 ⟨by omega,fun i hi=>h0b i (by omega)⟩) (i:=i) (by omega) (fun h9=>by have h8:=allB_true.1 h9 b (by omega); unfold rngAt at h8; omega)]) (Hd.en_ret (v:=(.v (.int .i64 (.ofNat 2)))) (by kernel_rfl) rfl)))))
    ·skip
     have ghqccr52_4:=ltI_false hqccr52_4
     exact goes_leafA isN_e (goes_cut Try.checked.mixed (known_none) 200 (T':=⟨[(1,(.ptr 0 0)),(qN2_12 L),(qN2_15 b),(6,(.v (.int .i64 (((i + 1):Nat):Int))))],[],2,[(qN2_9 E L y yl)]⟩) (e:=.normal) (m:=3) (ps:=[ltI i 3=true,i < E.length,loadL Try.prog (cQw E) (i * 1) 23=some (AV.xl (xlY (cQw E) (i * 1)) (xlN (cQw E) (i * 1)) 2 (xlC (cQw E) (i * 1))),b < xlN (cQw E) (i * 1),loadL Try.prog (xlC (cQw E) (i * 1)) (b * 2) 65=some (AV.agg [AV.v (Value.int IntKind.i64 (intAt (xlC (cQw E) (i * 1)) (b * 2 + 0))),AV.v (Value.int IntKind.i64 (intAt (xlC (cQw E) (i * 1)) (b * 2 + 1)))]),(!ltI (intAt (xlC (cQw E) (i * 1)) (b * 2 + 0)) 0)=true,true=true,true=true,true=true,true=true,(!ltI (intAt (xlC (cQw E) (i * 1)) (b * 2 + 1)) (intAt (xlC (cQw E) (i * 1)) (b * 2 + 0)))=true,true=true,true=true,true=true,(!!ltI 100 (intAt (xlC (cQw E) (i * 1)) (b * 2 + 1)))=false,inR IntKind.i64 (((i:Nat):Int) + 1)]) [.go,.go,.b true,.go,.go,.go,.sym,.sym,.go,.sym,.sym,.go,.go,.go,.go,.go,.go,.b true,.go,.b true,.go,.b true,.go,.b true,.go,.b true,.go,.go,.go,.b true,.go,.b true,.go,.b true,.go,.b true,.go,.go,.go,.go,.b false,.go,.go,.go] (by kernel_rfl) (by kernel_rfl) ⟨hqccr52_1,(by omega),(by rw [Nat.mul_one]; exact cQw_load (by omega) 23 (Try.underlying23) rfl),(by have h8:=h0b i (by omega); omega),(by have h8:=h0b i (by omega); obtain ⟨-,P9,e9,n9⟩:=cQw_isP (R:=E) (i:=i) (by omega); rw [e9]; exact cR_load (by omega) 65 (Try.underlying65) rfl (inf:=(Try.prog.info? 65).getD default) (by kernel_rfl) (by kernel_rfl)),(by rw [hqccr52_2]; rfl),rfl,rfl,rfl,rfl,(by rw [hqccr52_3]; rfl),rfl,rfl,rfl,(by rw [hqccr52_4]; rfl),(iRN2 (by omega) (by omega)),trivial⟩ rfl (by show 2≤3; decide) ⟨⟨nb_ptr (by show 0 < 2; decide),nb_v _,nb_v _,nb_v _,trivial⟩,⟨⟨by show 0 < 2; decide,nbb_cells (nb_cons (nb_free (freeL_xl (freeL_plainQ _))) (nb_cons (nb_xl (cR_plain L)) (fun _ hz=>absurd hz List.not_mem_nil)))⟩,trivial⟩,rfl⟩) (Hd.en_tn (⟨i + 1,by omega,(up_next (q:=fun k=>rngAt 100 (xlC (cQw E) (k * 1)) b) hi2 (by unfold rngAt; omega))⟩) (by show 3 - (i + 1) < 3 - i; omega) rfl)
 ·skip
  have ghqccr52_1:=ltI_false hqccr52_1
  obtain rfl:3=i:=by omega
  exact goes_leafA isX_e (goes_told Try.checked.mixed (known_none) 200 (T':=(qN2_2 E L b y yl)) (e:=.exit 4) (ps:=[ltI 3 3=false]) [.go,.go,.b false] (by kernel_rfl) (by kernel_rfl) ⟨hqccr52_1,trivial⟩ rfl) (Hd.en_tx (Hd.en_bn (ccr_53 y E yl L hE hqccr10_1 hqccr10_2 hqccr13_1 h0b hqccr24_1 b hb1 hb2 hqccr37_1 hqccr44_1 hqccr44_2 hqccr44_3 hi2 hqccr52_1 w hs)))
theorem ccr_49 (y:Value) (E:List (Value×List (Int×Int))) (yl:Value) (L:List (Int×Int)) (hE:E.length≤1000) (hqccr10_1:(ltI L.length 1)=false) (hqccr10_2:(ltI 8 L.length)=false) (hqccr13_1:(qN2_17 E)=true) (h0b:∀ k,k < (3)→xlN (cQw E) (k * 1)=L.length) (hqccr24_1:(ltI 3 3)=false) (b:Nat) (hb1:b≤L.length) (hb2:∀ k,k < b→rngAt 100 (cR L) k∧∀ i,i < 3→rngAt 100 (xlC (cQw E) (i * 1)) k) (hqccr37_1:(ltI b L.length)=true) (hqccr44_1:(ltI (intAt (cR L) (b * 2 + 0)) 0)=false) (hqccr44_2:(ltI (intAt (cR L) (b * 2 + 1)) (intAt (cR L) (b * 2 + 0)))=false) (hqccr44_3:(ltI 100 (intAt (cR L) (b * 2 + 1)))=false) (w:World) (hs:List Nat):Goes Try.prog 58 ccrK46 ((qN2_1 E L b y yl)) (BaseW.H w hs) (Hd.AfterB Try.prog 58 3 ccrK39 w (Hd.StepC Try.prog 58 2 (fun b:{b:Nat // b≤L.length∧∀ k,k < b→rngAt 100 (cR L) k∧∀ i,i < 3→rngAt 100 (xlC (cQw E) (i * 1)) k}=>⟨[(1,(.ptr 0 0)),(qN2_12 L),(5,(.v (.int .i64 b.1)))],[],1,[(qN2_9 E L y yl)]⟩) (fun b:{b:Nat // b≤L.length∧∀ k,k < b→rngAt 100 (cR L) k∧∀ i,i < 3→rngAt 100 (xlC (cQw E) (i * 1)) k}=>L.length - b.1) ccrK26 w (OutH Try.prog Try.f21 58 (.int .i64 (ccE (cQw E) E.length (cR L) L.length)) w) (⟨b,hb1,hb2⟩:{b:Nat // b≤L.length∧∀ k,k < b→rngAt 100 (cR L) k∧∀ i,i < 3→rngAt 100 (xlC (cQw E) (i * 1)) k}))):=by
 have hcl_L:=cR_len L
 have ghqccr10_1:=ltI_false hqccr10_1
 have ghqccr10_2:=ltI_false hqccr10_2
 have ghqccr13_1:=eqI_true hqccr13_1
 have ghqccr24_1:=ltI_false hqccr24_1
 have ghqccr37_1:=ltI_true hqccr37_1
 have ghqccr44_1:=ltI_false hqccr44_1
 have ghqccr44_2:=ltI_false hqccr44_2
 have ghqccr44_3:=ltI_false hqccr44_3
 exact Hd.goes_loopL (id:=4) (by kernel_rfl) (by kernel_rfl) (fun i:{i:Nat // i≤3∧∀ k,k < i→rngAt 100 (xlC (cQw E) (k * 1)) b}=>⟨[(1,(.ptr 0 0)),(qN2_12 L),(qN2_15 b),(6,(.v (.int .i64 i.1)))],[],2,[(qN2_9 E L y yl)]⟩) (fun i:{i:Nat // i≤3∧∀ k,k < i→rngAt 100 (xlC (cQw E) (k * 1)) b}=>3 - i.1) (fun ix_ hs=>ccr_51 y E yl L hE hqccr10_1 hqccr10_2 hqccr13_1 h0b hqccr24_1 b hb1 hb2 hqccr37_1 hqccr44_1 hqccr44_2 hqccr44_3 ix_.1 ix_.2.1 ix_.2.2 w hs) ⟨0,Nat.zero_le _,(fun j hj=>by omega)⟩ hs
theorem ccr_48 (y:Value) (E:List (Value×List (Int×Int))) (yl:Value) (L:List (Int×Int)) (hE:E.length≤1000) (hqccr10_1:(ltI L.length 1)=false) (hqccr10_2:(ltI 8 L.length)=false) (hqccr13_1:(qN2_17 E)=true) (h0b:∀ k,k < (3)→xlN (cQw E) (k * 1)=L.length) (hqccr24_1:(ltI 3 3)=false) (b:Nat) (hb1:b≤L.length) (hb2:∀ k,k < b→rngAt 100 (cR L) k∧∀ i,i < 3→rngAt 100 (xlC (cQw E) (i * 1)) k) (hqccr37_1:(ltI b L.length)=true) (hqccr44_1:(ltI (intAt (cR L) (b * 2 + 0)) 0)=false) (hqccr44_2:(ltI (intAt (cR L) (b * 2 + 1)) (intAt (cR L) (b * 2 + 0)))=false) (hqccr44_3:(ltI 100 (intAt (cR L) (b * 2 + 1)))=false) (w:World) (hs:List Nat):Goes Try.prog 58 ccrK46 ((qN2_1 E L b y yl)) (BaseW.H w hs) (Hd.AfterB Try.prog 58 3 ccrK39 w (Hd.StepC Try.prog 58 2 (fun b:{b:Nat // b≤L.length∧∀ k,k < b→rngAt 100 (cR L) k∧∀ i,i < 3→rngAt 100 (xlC (cQw E) (i * 1)) k}=>⟨[(1,(.ptr 0 0)),(qN2_12 L),(5,(.v (.int .i64 b.1)))],[],1,[(qN2_9 E L y yl)]⟩) (fun b:{b:Nat // b≤L.length∧∀ k,k < b→rngAt 100 (cR L) k∧∀ i,i < 3→rngAt 100 (xlC (cQw E) (i * 1)) k}=>L.length - b.1) ccrK26 w (OutH Try.prog Try.f21 58 (.int .i64 (ccE (cQw E) E.length (cR L) L.length)) w) (⟨b,hb1,hb2⟩:{b:Nat // b≤L.length∧∀ k,k < b→rngAt 100 (cR L) k∧∀ i,i < 3→rngAt 100 (xlC (cQw E) (i * 1)) k}))):=by
 exact ccr_49 y E yl L hE hqccr10_1 hqccr10_2 hqccr13_1 h0b hqccr24_1 b hb1 hb2 hqccr37_1 hqccr44_1 hqccr44_2 hqccr44_3 w hs
theorem ccr_45 (y:Value) (E:List (Value×List (Int×Int))) (yl:Value) (L:List (Int×Int)) (hE:E.length≤1000) (hqccr10_1:(ltI L.length 1)=false) (hqccr10_2:(ltI 8 L.length)=false) (hqccr13_1:(qN2_17 E)=true) (h0b:∀ k,k < (3)→xlN (cQw E) (k * 1)=L.length) (hqccr24_1:(ltI 3 3)=false) (b:Nat) (hb1:b≤L.length) (hb2:∀ k,k < b→rngAt 100 (cR L) k∧∀ i,i < 3→rngAt 100 (xlC (cQw E) (i * 1)) k) (hqccr37_1:(ltI b L.length)=true) (hqccr44_1:(ltI (intAt (cR L) (b * 2 + 0)) 0)=false) (hqccr44_2:(ltI (intAt (cR L) (b * 2 + 1)) (intAt (cR L) (b * 2 + 0)))=false) (hqccr44_3:(ltI 100 (intAt (cR L) (b * 2 + 1)))=false) (w:World) (hs:List Nat):Goes Try.prog 58 ccrK43 ((qN2_2 E L b y yl)) (BaseW.H w hs) (Hd.AfterB Try.prog 58 3 ccrK39 w (Hd.StepC Try.prog 58 2 (fun b:{b:Nat // b≤L.length∧∀ k,k < b→rngAt 100 (cR L) k∧∀ i,i < 3→rngAt 100 (xlC (cQw E) (i * 1)) k}=>⟨[(1,(.ptr 0 0)),(qN2_12 L),(5,(.v (.int .i64 b.1)))],[],1,[(qN2_9 E L y yl)]⟩) (fun b:{b:Nat // b≤L.length∧∀ k,k < b→rngAt 100 (cR L) k∧∀ i,i < 3→rngAt 100 (xlC (cQw E) (i * 1)) k}=>L.length - b.1) ccrK26 w (OutH Try.prog Try.f21 58 (.int .i64 (ccE (cQw E) E.length (cR L) L.length)) w) (⟨b,hb1,hb2⟩:{b:Nat // b≤L.length∧∀ k,k < b→rngAt 100 (cR L) k∧∀ i,i < 3→rngAt 100 (xlC (cQw E) (i * 1)) k}))):=by
 have hcl_L:=cR_len L
 have ghqccr10_1:=ltI_false hqccr10_1
 have ghqccr10_2:=ltI_false hqccr10_2
 have ghqccr13_1:=eqI_true hqccr13_1
 have ghqccr24_1:=ltI_false hqccr24_1
 have ghqccr37_1:=ltI_true hqccr37_1
 have ghqccr44_1:=ltI_false hqccr44_1
 have ghqccr44_2:=ltI_false hqccr44_2
 have ghqccr44_3:=ltI_false hqccr44_3
 refine Hd.goes_seqA (by kernel_rfl) ?_
 exact goes_leafA isN_e (goes_told Try.checked.mixed (known_none) 200 (T':=(qN2_1 E L b y yl)) (e:=.normal) (ps:=[]) [.go] (by kernel_rfl) (by kernel_rfl) trivial rfl) (Hd.en_n (ccr_48 y E yl L hE hqccr10_1 hqccr10_2 hqccr13_1 h0b hqccr24_1 b hb1 hb2 hqccr37_1 hqccr44_1 hqccr44_2 hqccr44_3 w hs))
theorem ccr_42 (y:Value) (E:List (Value×List (Int×Int))) (yl:Value) (L:List (Int×Int)) (hE:E.length≤1000) (hqccr10_1:(ltI L.length 1)=false) (hqccr10_2:(ltI 8 L.length)=false) (hqccr13_1:(qN2_17 E)=true) (h0b:∀ k,k < (3)→xlN (cQw E) (k * 1)=L.length) (hqccr24_1:(ltI 3 3)=false) (b:Nat) (hb1:b≤L.length) (hb2:∀ k,k < b→rngAt 100 (cR L) k∧∀ i,i < 3→rngAt 100 (xlC (cQw E) (i * 1)) k) (hqccr37_1:(ltI b L.length)=true) (w:World) (hs:List Nat):Goes Try.prog 58 ccrK41 ((qN2_3 E L b y yl)) (BaseW.H w hs) (Hd.AfterB Try.prog 58 3 ccrK39 w (Hd.StepC Try.prog 58 2 (fun b:{b:Nat // b≤L.length∧∀ k,k < b→rngAt 100 (cR L) k∧∀ i,i < 3→rngAt 100 (xlC (cQw E) (i * 1)) k}=>⟨[(1,(.ptr 0 0)),(qN2_12 L),(5,(.v (.int .i64 b.1)))],[],1,[(qN2_9 E L y yl)]⟩) (fun b:{b:Nat // b≤L.length∧∀ k,k < b→rngAt 100 (cR L) k∧∀ i,i < 3→rngAt 100 (xlC (cQw E) (i * 1)) k}=>L.length - b.1) ccrK26 w (OutH Try.prog Try.f21 58 (.int .i64 (ccE (cQw E) E.length (cR L) L.length)) w) (⟨b,hb1,hb2⟩:{b:Nat // b≤L.length∧∀ k,k < b→rngAt 100 (cR L) k∧∀ i,i < 3→rngAt 100 (xlC (cQw E) (i * 1)) k}))):=by
 have hcl_L:=cR_len L
 have ghqccr10_1:=ltI_false hqccr10_1
 have ghqccr10_2:=ltI_false hqccr10_2
 have ghqccr13_1:=eqI_true hqccr13_1
 have ghqccr24_1:=ltI_false hqccr24_1
 have ghqccr37_1:=ltI_true hqccr37_1
 refine Hd.goes_seqA (by kernel_rfl) ?_
 rcases Bool.eq_false_or_eq_true (ltI (intAt (cR L) (b * 2 + 0)) 0) with hqccr44_1 | hqccr44_1
 ·skip
  have ghqccr44_1:=ltI_true hqccr44_1
  exact goes_leafA isR_e (goes_told Try.checked.mixed (known_none) 200 (T':=⟨[qN2_18],[],2,[]⟩) (e:=.ret) (ps:=[b < L.length,loadL Try.prog (cR L) (b * 2) 65=some (AV.agg [AV.v (Value.int IntKind.i64 (intAt (cR L) (b * 2 + 0))),AV.v (Value.int IntKind.i64 (intAt (cR L) (b * 2 + 1)))]),(!ltI (intAt (cR L) (b * 2 + 0)) 0)=false,false=false,false=false,false=false,false=false,false=false,false=false,false=false,false=false,(!false)=true]) [.go,.go,.go,.sym,.sym,.go,.go,.go,.go,.go,.go,.b false,.b false,.b false,.b false,.b false,.go,.go,.b false,.b false,.b false,.b false,.go,.go,.go,.b true,.go] (by kernel_rfl) (by kernel_rfl) ⟨(by omega),(cR_load (by omega) 65 (Try.underlying65) rfl (inf:=(Try.prog.info? 65).getD default) (by kernel_rfl) (by kernel_rfl)),(by rw [hqccr44_1]; rfl),rfl,rfl,rfl,rfl,rfl,rfl,rfl,rfl,rfl,trivial⟩ rfl) (Hd.en_o (by intro h; cases h) (Hd.en_bo (by intro h; cases h) (by intro h; cases h) (Hd.en_so (by intro h; cases h) (by intro h; cases h) (Hd.en_eq (r:=(.int .i64 2)) (by rw [ccE_lamp (cE:=cQw E) (m:=E.length) (cL:=cR L) (n:=L.length) (by omega) (eyB_true.2 ⟨by omega,fun i hi=>h0b i (by omega)⟩) (fun h9=>by have h8:=allB_true.1 h9 b (by omega); unfold rngAt at h8; omega)]) (Hd.en_ret (v:=(.v (.int .i64 (.ofNat 2)))) (by kernel_rfl) rfl)))))
 ·skip
  have ghqccr44_1:=ltI_false hqccr44_1
  rcases Bool.eq_false_or_eq_true (ltI (intAt (cR L) (b * 2 + 1)) (intAt (cR L) (b * 2 + 0))) with hqccr44_2 | hqccr44_2
  ·skip
   have ghqccr44_2:=ltI_true hqccr44_2
   exact goes_leafA isR_e (goes_told Try.checked.mixed (known_none) 200 (T':=⟨[qN2_18],[],2,[]⟩) (e:=.ret) (ps:=[b < L.length,loadL Try.prog (cR L) (b * 2) 65=some (AV.agg [AV.v (Value.int IntKind.i64 (intAt (cR L) (b * 2 + 0))),AV.v (Value.int IntKind.i64 (intAt (cR L) (b * 2 + 1)))]),(!ltI (intAt (cR L) (b * 2 + 0)) 0)=true,true=true,true=true,true=true,true=true,(!ltI (intAt (cR L) (b * 2 + 1)) (intAt (cR L) (b * 2 + 0)))=false,false=false,false=false,false=false,(!false)=true]) [.go,.go,.go,.sym,.sym,.go,.go,.go,.go,.go,.go,.b true,.go,.b true,.go,.b true,.go,.b true,.go,.b true,.go,.go,.go,.b false,.b false,.b false,.b false,.go,.go,.go,.b true,.go] (by kernel_rfl) (by kernel_rfl) ⟨(by omega),(cR_load (by omega) 65 (Try.underlying65) rfl (inf:=(Try.prog.info? 65).getD default) (by kernel_rfl) (by kernel_rfl)),(by rw [hqccr44_1]; rfl),rfl,rfl,rfl,rfl,(by rw [hqccr44_2]; rfl),rfl,rfl,rfl,rfl,trivial⟩ rfl) (Hd.en_o (by intro h; cases h) (Hd.en_bo (by intro h; cases h) (by intro h; cases h) (Hd.en_so (by intro h; cases h) (by intro h; cases h) (Hd.en_eq (r:=(.int .i64 2)) (by rw [ccE_lamp (cE:=cQw E) (m:=E.length) (cL:=cR L) (n:=L.length) (by omega) (eyB_true.2 ⟨by omega,fun i hi=>h0b i (by omega)⟩) (fun h9=>by have h8:=allB_true.1 h9 b (by omega); unfold rngAt at h8; omega)]) (Hd.en_ret (v:=(.v (.int .i64 (.ofNat 2)))) (by kernel_rfl) rfl)))))
  ·skip
   have ghqccr44_2:=ltI_false hqccr44_2
   rcases Bool.eq_false_or_eq_true (ltI 100 (intAt (cR L) (b * 2 + 1))) with hqccr44_3 | hqccr44_3
   ·skip
    have ghqccr44_3:=ltI_true hqccr44_3
    exact goes_leafA isR_e (goes_told Try.checked.mixed (known_none) 200 (T':=⟨[qN2_18],[],2,[]⟩) (e:=.ret) (ps:=[b < L.length,loadL Try.prog (cR L) (b * 2) 65=some (AV.agg [AV.v (Value.int IntKind.i64 (intAt (cR L) (b * 2 + 0))),AV.v (Value.int IntKind.i64 (intAt (cR L) (b * 2 + 1)))]),(!ltI (intAt (cR L) (b * 2 + 0)) 0)=true,true=true,true=true,true=true,true=true,(!ltI (intAt (cR L) (b * 2 + 1)) (intAt (cR L) (b * 2 + 0)))=true,true=true,true=true,true=true,(!!ltI 100 (intAt (cR L) (b * 2 + 1)))=true]) [.go,.go,.go,.sym,.sym,.go,.go,.go,.go,.go,.go,.b true,.go,.b true,.go,.b true,.go,.b true,.go,.b true,.go,.go,.go,.b true,.go,.b true,.go,.b true,.go,.b true,.go,.go,.go,.go,.b true,.go] (by kernel_rfl) (by kernel_rfl) ⟨(by omega),(cR_load (by omega) 65 (Try.underlying65) rfl (inf:=(Try.prog.info? 65).getD default) (by kernel_rfl) (by kernel_rfl)),(by rw [hqccr44_1]; rfl),rfl,rfl,rfl,rfl,(by rw [hqccr44_2]; rfl),rfl,rfl,rfl,(by rw [hqccr44_3]; rfl),trivial⟩ rfl) (Hd.en_o (by intro h; cases h) (Hd.en_bo (by intro h; cases h) (by intro h; cases h) (Hd.en_so (by intro h; cases h) (by intro h; cases h) (Hd.en_eq (r:=(.int .i64 2)) (by rw [ccE_lamp (cE:=cQw E) (m:=E.length) (cL:=cR L) (n:=L.length) (by omega) (eyB_true.2 ⟨by omega,fun i hi=>h0b i (by omega)⟩) (fun h9=>by have h8:=allB_true.1 h9 b (by omega); unfold rngAt at h8; omega)]) (Hd.en_ret (v:=(.v (.int .i64 (.ofNat 2)))) (by kernel_rfl) rfl)))))
   ·skip
    have ghqccr44_3:=ltI_false hqccr44_3
    exact goes_leafA isN_e (goes_told Try.checked.mixed (known_none) 200 (T':=(qN2_2 E L b y yl)) (e:=.normal) (ps:=[b < L.length,loadL Try.prog (cR L) (b * 2) 65=some (AV.agg [AV.v (Value.int IntKind.i64 (intAt (cR L) (b * 2 + 0))),AV.v (Value.int IntKind.i64 (intAt (cR L) (b * 2 + 1)))]),(!ltI (intAt (cR L) (b * 2 + 0)) 0)=true,true=true,true=true,true=true,true=true,(!ltI (intAt (cR L) (b * 2 + 1)) (intAt (cR L) (b * 2 + 0)))=true,true=true,true=true,true=true,(!!ltI 100 (intAt (cR L) (b * 2 + 1)))=false]) [.go,.go,.go,.sym,.sym,.go,.go,.go,.go,.go,.go,.b true,.go,.b true,.go,.b true,.go,.b true,.go,.b true,.go,.go,.go,.b true,.go,.b true,.go,.b true,.go,.b true,.go,.go,.go,.go,.b false] (by kernel_rfl) (by kernel_rfl) ⟨(by omega),(cR_load (by omega) 65 (Try.underlying65) rfl (inf:=(Try.prog.info? 65).getD default) (by kernel_rfl) (by kernel_rfl)),(by rw [hqccr44_1]; rfl),rfl,rfl,rfl,rfl,(by rw [hqccr44_2]; rfl),rfl,rfl,rfl,(by rw [hqccr44_3]; rfl),trivial⟩ rfl) (Hd.en_n (ccr_45 y E yl L hE hqccr10_1 hqccr10_2 hqccr13_1 h0b hqccr24_1 b hb1 hb2 hqccr37_1 hqccr44_1 hqccr44_2 hqccr44_3 w hs))
theorem ccr_40 (y:Value) (E:List (Value×List (Int×Int))) (yl:Value) (L:List (Int×Int)) (hE:E.length≤1000) (hqccr10_1:(ltI L.length 1)=false) (hqccr10_2:(ltI 8 L.length)=false) (hqccr13_1:(qN2_17 E)=true) (h0b:∀ k,k < (3)→xlN (cQw E) (k * 1)=L.length) (hqccr24_1:(ltI 3 3)=false) (b:Nat) (hb1:b≤L.length) (hb2:∀ k,k < b→rngAt 100 (cR L) k∧∀ i,i < 3→rngAt 100 (xlC (cQw E) (i * 1)) k) (hqccr37_1:(ltI b L.length)=true) (w:World) (hs:List Nat):Goes Try.prog 58 (hdC ccrK36) ((qN2_3 E L b y yl)) (BaseW.H w hs) (Hd.AfterN Try.prog 58 ccrK39 w (Hd.StepC Try.prog 58 2 (fun b:{b:Nat // b≤L.length∧∀ k,k < b→rngAt 100 (cR L) k∧∀ i,i < 3→rngAt 100 (xlC (cQw E) (i * 1)) k}=>⟨[(1,(.ptr 0 0)),(qN2_12 L),(5,(.v (.int .i64 b.1)))],[],1,[(qN2_9 E L y yl)]⟩) (fun b:{b:Nat // b≤L.length∧∀ k,k < b→rngAt 100 (cR L) k∧∀ i,i < 3→rngAt 100 (xlC (cQw E) (i * 1)) k}=>L.length - b.1) ccrK26 w (OutH Try.prog Try.f21 58 (.int .i64 (ccE (cQw E) E.length (cR L) L.length)) w) (⟨b,hb1,hb2⟩:{b:Nat // b≤L.length∧∀ k,k < b→rngAt 100 (cR L) k∧∀ i,i < 3→rngAt 100 (xlC (cQw E) (i * 1)) k}))):=by
 exact Hd.goes_blkA (id:=3) (by kernel_rfl) (by kernel_rfl) (ccr_42 y E yl L hE hqccr10_1 hqccr10_2 hqccr13_1 h0b hqccr24_1 b hb1 hb2 hqccr37_1 w hs)
theorem ccr_38 (y:Value) (E:List (Value×List (Int×Int))) (yl:Value) (L:List (Int×Int)) (hE:E.length≤1000) (hqccr10_1:(ltI L.length 1)=false) (hqccr10_2:(ltI 8 L.length)=false) (hqccr13_1:(qN2_17 E)=true) (h0b:∀ k,k < (3)→xlN (cQw E) (k * 1)=L.length) (hqccr24_1:(ltI 3 3)=false) (b:Nat) (hb1:b≤L.length) (hb2:∀ k,k < b→rngAt 100 (cR L) k∧∀ i,i < 3→rngAt 100 (xlC (cQw E) (i * 1)) k) (hqccr37_1:(ltI b L.length)=true) (w:World) (hs:List Nat):Goes Try.prog 58 ccrK36 ((qN2_3 E L b y yl)) (BaseW.H w hs) (Hd.StepC Try.prog 58 2 (fun b:{b:Nat // b≤L.length∧∀ k,k < b→rngAt 100 (cR L) k∧∀ i,i < 3→rngAt 100 (xlC (cQw E) (i * 1)) k}=>⟨[(1,(.ptr 0 0)),(qN2_12 L),(5,(.v (.int .i64 b.1)))],[],1,[(qN2_9 E L y yl)]⟩) (fun b:{b:Nat // b≤L.length∧∀ k,k < b→rngAt 100 (cR L) k∧∀ i,i < 3→rngAt 100 (xlC (cQw E) (i * 1)) k}=>L.length - b.1) ccrK26 w (OutH Try.prog Try.f21 58 (.int .i64 (ccE (cQw E) E.length (cR L) L.length)) w) (⟨b,hb1,hb2⟩:{b:Nat // b≤L.length∧∀ k,k < b→rngAt 100 (cR L) k∧∀ i,i < 3→rngAt 100 (xlC (cQw E) (i * 1)) k})):=by
 exact Hd.goes_seqA (by kernel_rfl) (ccr_40 y E yl L hE hqccr10_1 hqccr10_2 hqccr13_1 h0b hqccr24_1 b hb1 hb2 hqccr37_1 w hs)
theorem ccr_55 (y:Value) (E:List (Value×List (Int×Int))) (yl:Value) (L:List (Int×Int)) (hE:E.length≤1000) (hqccr10_1:(ltI L.length 1)=false) (hqccr10_2:(ltI 8 L.length)=false) (hqccr13_1:(qN2_17 E)=true) (h0b:∀ k,k < (3)→xlN (cQw E) (k * 1)=L.length) (hqccr24_1:(ltI 3 3)=false) (h2b:∀ k,k < (L.length)→rngAt 100 (cR L) k∧∀ i,i < 3→rngAt 100 (xlC (cQw E) (i * 1)) k) (hqccr37_1:(ltI L.length L.length)=false) (w:World) (hs:List Nat):Goes Try.prog 58 ccrK26 (⟨[],[],1,[]⟩) (BaseW.H w hs) (OutH Try.prog Try.f21 58 (.int .i64 (ccE (cQw E) E.length (cR L) L.length)) w):=by
 have hcl_L:=cR_len L
 have ghqccr10_1:=ltI_false hqccr10_1
 have ghqccr10_2:=ltI_false hqccr10_2
 have ghqccr13_1:=eqI_true hqccr13_1
 have ghqccr24_1:=ltI_false hqccr24_1
 have ghqccr37_1:=ltI_false hqccr37_1
 exact goes_leafA isR_e (goes_told Try.checked.mixed (known_none) 200 (T':=⟨[(2,(.v (.int .i64 (.ofNat 0))))],[],1,[]⟩) (e:=.ret) (ps:=[]) [.go] (by kernel_rfl) (by kernel_rfl) trivial rfl) (Hd.en_eq (r:=(.int .i64 0)) (by rw [ccE_ok (cE:=cQw E) (m:=E.length) (cL:=cR L) (n:=L.length) (by omega) (eyB_true.2 ⟨by omega,fun i hi=>h0b i (by omega)⟩) (allB_true.2 fun b hb=>(h2b b (by omega)).1) (fun i hi=>allB_true.2 fun b hb=>(h2b b (by omega)).2 i (by omega))]) (Hd.en_ret (v:=(.v (.int .i64 (.ofNat 0)))) (by kernel_rfl) rfl))
theorem ccr_35 (y:Value) (E:List (Value×List (Int×Int))) (yl:Value) (L:List (Int×Int)) (hE:E.length≤1000) (hqccr10_1:(ltI L.length 1)=false) (hqccr10_2:(ltI 8 L.length)=false) (hqccr13_1:(qN2_17 E)=true) (h0b:∀ k,k < (3)→xlN (cQw E) (k * 1)=L.length) (hqccr24_1:(ltI 3 3)=false) (b:Nat) (hb1:b≤L.length) (hb2:∀ k,k < b→rngAt 100 (cR L) k∧∀ i,i < 3→rngAt 100 (xlC (cQw E) (i * 1)) k) (w:World) (hs:List Nat):Goes Try.prog 58 ccrK33 (⟨[(1,(.ptr 0 0)),(qN2_12 L),(5,(.v (.int .i64 b)))],[],1,[(qN2_9 E L y yl)]⟩) (BaseW.H w hs) (Hd.StepC Try.prog 58 2 (fun b:{b:Nat // b≤L.length∧∀ k,k < b→rngAt 100 (cR L) k∧∀ i,i < 3→rngAt 100 (xlC (cQw E) (i * 1)) k}=>⟨[(1,(.ptr 0 0)),(qN2_12 L),(5,(.v (.int .i64 b.1)))],[],1,[(qN2_9 E L y yl)]⟩) (fun b:{b:Nat // b≤L.length∧∀ k,k < b→rngAt 100 (cR L) k∧∀ i,i < 3→rngAt 100 (xlC (cQw E) (i * 1)) k}=>L.length - b.1) ccrK26 w (OutH Try.prog Try.f21 58 (.int .i64 (ccE (cQw E) E.length (cR L) L.length)) w) (⟨b,hb1,hb2⟩:{b:Nat // b≤L.length∧∀ k,k < b→rngAt 100 (cR L) k∧∀ i,i < 3→rngAt 100 (xlC (cQw E) (i * 1)) k})):=by
 have hcl_L:=cR_len L
 have ghqccr10_1:=ltI_false hqccr10_1
 have ghqccr10_2:=ltI_false hqccr10_2
 have ghqccr13_1:=eqI_true hqccr13_1
 have ghqccr24_1:=ltI_false hqccr24_1
 refine Hd.goes_seqA (by kernel_rfl) ?_
 rcases Bool.eq_false_or_eq_true (ltI b L.length) with hqccr37_1 | hqccr37_1
 ·skip
  have ghqccr37_1:=ltI_true hqccr37_1
  exact goes_leafA isN_e (goes_told Try.checked.mixed (known_none) 200 (T':=(qN2_3 E L b y yl)) (e:=.normal) (ps:=[ltI b L.length=true]) [.go,.go,.go,.b true] (by kernel_rfl) (by kernel_rfl) ⟨hqccr37_1,trivial⟩ rfl) (Hd.en_n (ccr_38 y E yl L hE hqccr10_1 hqccr10_2 hqccr13_1 h0b hqccr24_1 b hb1 hb2 hqccr37_1 w hs))
 ·skip
  have ghqccr37_1:=ltI_false hqccr37_1
  obtain rfl:b=L.length:=by omega
  exact goes_leafA isX_e (goes_told Try.checked.mixed (known_none) 200 (T':=⟨[],[],1,[]⟩) (e:=.exit 2) (ps:=[ltI L.length L.length=false]) [.go,.go,.go,.b false] (by kernel_rfl) (by kernel_rfl) ⟨hqccr37_1,trivial⟩ rfl) (Hd.en_o (by intro h; cases h) (Hd.en_sx (ccr_55 y E yl L hE hqccr10_1 hqccr10_2 hqccr13_1 h0b hqccr24_1 hb2  hqccr37_1 w hs)))
theorem ccr_32 (y:Value) (E:List (Value×List (Int×Int))) (yl:Value) (L:List (Int×Int)) (hE:E.length≤1000) (hqccr10_1:(ltI L.length 1)=false) (hqccr10_2:(ltI 8 L.length)=false) (hqccr13_1:(qN2_17 E)=true) (h0b:∀ k,k < (3)→xlN (cQw E) (k * 1)=L.length) (hqccr24_1:(ltI 3 3)=false) (w:World) (hs:List Nat):Goes Try.prog 58 ccrK29 ((qN2_4 E L y yl)) (BaseW.H w hs) (Hd.AfterN Try.prog 58 ccrK26 w (OutH Try.prog Try.f21 58 (.int .i64 (ccE (cQw E) E.length (cR L) L.length)) w)):=by
 have hcl_L:=cR_len L
 have ghqccr10_1:=ltI_false hqccr10_1
 have ghqccr10_2:=ltI_false hqccr10_2
 have ghqccr13_1:=eqI_true hqccr13_1
 have ghqccr24_1:=ltI_false hqccr24_1
 exact Hd.goes_loopA (id:=2) (by kernel_rfl) (by kernel_rfl) (fun b:{b:Nat // b≤L.length∧∀ k,k < b→rngAt 100 (cR L) k∧∀ i,i < 3→rngAt 100 (xlC (cQw E) (i * 1)) k}=>⟨[(1,(.ptr 0 0)),(qN2_12 L),(5,(.v (.int .i64 b.1)))],[],1,[(qN2_9 E L y yl)]⟩) (fun b:{b:Nat // b≤L.length∧∀ k,k < b→rngAt 100 (cR L) k∧∀ i,i < 3→rngAt 100 (xlC (cQw E) (i * 1)) k}=>L.length - b.1) (fun ix_ hs=>ccr_35 y E yl L hE hqccr10_1 hqccr10_2 hqccr13_1 h0b hqccr24_1 ix_.1 ix_.2.1 ix_.2.2 w hs) ⟨0,Nat.zero_le _,(fun j hj=>by omega)⟩ hs
theorem ccr_31 (y:Value) (E:List (Value×List (Int×Int))) (yl:Value) (L:List (Int×Int)) (hE:E.length≤1000) (hqccr10_1:(ltI L.length 1)=false) (hqccr10_2:(ltI 8 L.length)=false) (hqccr13_1:(qN2_17 E)=true) (h0b:∀ k,k < (3)→xlN (cQw E) (k * 1)=L.length) (hqccr24_1:(ltI 3 3)=false) (w:World) (hs:List Nat):Goes Try.prog 58 ccrK29 ((qN2_4 E L y yl)) (BaseW.H w hs) (Hd.AfterN Try.prog 58 ccrK26 w (OutH Try.prog Try.f21 58 (.int .i64 (ccE (cQw E) E.length (cR L) L.length)) w)):=by
 exact ccr_32 y E yl L hE hqccr10_1 hqccr10_2 hqccr13_1 h0b hqccr24_1 w hs
theorem ccr_28 (y:Value) (E:List (Value×List (Int×Int))) (yl:Value) (L:List (Int×Int)) (hE:E.length≤1000) (hqccr10_1:(ltI L.length 1)=false) (hqccr10_2:(ltI 8 L.length)=false) (hqccr13_1:(qN2_17 E)=true) (h0b:∀ k,k < (3)→xlN (cQw E) (k * 1)=L.length) (hqccr24_1:(ltI 3 3)=false) (w:World) (hs:List Nat):Goes Try.prog 58 ccrK27 ((qN2_6 E L y yl)) (BaseW.H w hs) (Hd.AfterN Try.prog 58 ccrK26 w (OutH Try.prog Try.f21 58 (.int .i64 (ccE (cQw E) E.length (cR L) L.length)) w)):=by
 have hcl_L:=cR_len L
 have ghqccr10_1:=ltI_false hqccr10_1
 have ghqccr10_2:=ltI_false hqccr10_2
 have ghqccr13_1:=eqI_true hqccr13_1
 have ghqccr24_1:=ltI_false hqccr24_1
 refine Hd.goes_seqA (by kernel_rfl) ?_
 exact goes_leafA isN_e (goes_told Try.checked.mixed (known_none) 200 (T':=(qN2_4 E L y yl)) (e:=.normal) (ps:=[]) [.go] (by kernel_rfl) (by kernel_rfl) trivial rfl) (Hd.en_n (ccr_31 y E yl L hE hqccr10_1 hqccr10_2 hqccr13_1 h0b hqccr24_1 w hs))
theorem ccr_25 (y:Value) (E:List (Value×List (Int×Int))) (yl:Value) (L:List (Int×Int)) (hE:E.length≤1000) (hqccr10_1:(ltI L.length 1)=false) (hqccr10_2:(ltI 8 L.length)=false) (hqccr13_1:(qN2_17 E)=true) (h0b:∀ k,k < (3)→xlN (cQw E) (k * 1)=L.length) (hqccr24_1:(ltI 3 3)=false) (w:World) (hs:List Nat):Goes Try.prog 58 ccrK15 ((qN2_6 E L y yl)) (BaseW.H w hs) (OutH Try.prog Try.f21 58 (.int .i64 (ccE (cQw E) E.length (cR L) L.length)) w):=by
 exact Hd.goes_seqA (by kernel_rfl) (ccr_28 y E yl L hE hqccr10_1 hqccr10_2 hqccr13_1 h0b hqccr24_1 w hs)
theorem ccr_23 (y:Value) (E:List (Value×List (Int×Int))) (yl:Value) (L:List (Int×Int)) (hE:E.length≤1000) (hqccr10_1:(ltI L.length 1)=false) (hqccr10_2:(ltI 8 L.length)=false) (hqccr13_1:(qN2_17 E)=true) (i:Nat) (hi1:i≤3) (hi2:∀ k,k < i→xlN (cQw E) (k * 1)=L.length) (w:World) (hs:List Nat):Goes Try.prog 58 ccrK22 (⟨[(1,(.ptr 0 0)),(qN2_12 L),(4,(.v (.int .i64 i)))],[],1,[(qN2_9 E L y yl)]⟩) (BaseW.H w hs) (Hd.StepC Try.prog 58 0 (fun i:{i:Nat // i≤3∧∀ k,k < i→xlN (cQw E) (k * 1)=L.length}=>⟨[(1,(.ptr 0 0)),(qN2_12 L),(4,(.v (.int .i64 i.1)))],[],1,[(qN2_9 E L y yl)]⟩) (fun i:{i:Nat // i≤3∧∀ k,k < i→xlN (cQw E) (k * 1)=L.length}=>3 - i.1) ccrK15 w (OutH Try.prog Try.f21 58 (.int .i64 (ccE (cQw E) E.length (cR L) L.length)) w) (⟨i,hi1,hi2⟩:{i:Nat // i≤3∧∀ k,k < i→xlN (cQw E) (k * 1)=L.length})):=by
 have hcl_L:=cR_len L
 have ghqccr10_1:=ltI_false hqccr10_1
 have ghqccr10_2:=ltI_false hqccr10_2
 have ghqccr13_1:=eqI_true hqccr13_1
 rcases Bool.eq_false_or_eq_true (ltI i 3) with hqccr24_1 | hqccr24_1
 ·skip
  have ghqccr24_1:=ltI_true hqccr24_1
  rcases Bool.eq_false_or_eq_true (eqI ((xlN (cQw E) (i * 1):Nat):Int) L.length) with hqccr24_2 | hqccr24_2
  ·skip
   have ghqccr24_2:=eqI_true hqccr24_2
   exact goes_leafA isN_e (goes_told Try.checked.mixed (known_none) 200 (T':=⟨[(1,(.ptr 0 0)),(qN2_12 L),(4,(.v (.int .i64 (((i + 1):Nat):Int))))],[],1,[(qN2_9 E L y yl)]⟩) (e:=.normal) (ps:=[ltI i 3=true,i < E.length,loadL Try.prog (cQw E) (i * 1) 23=some (AV.xl (xlY (cQw E) (i * 1)) (xlN (cQw E) (i * 1)) 2 (xlC (cQw E) (i * 1))),(!eqI ((xlN (cQw E) (i * 1):Nat):Int) L.length)=false,inR IntKind.i64 (((i:Nat):Int) + 1)]) [.go,.go,.b true,.go,.go,.go,.sym,.sym,.go,.go,.go,.b false,.go,.go,.go] (by kernel_rfl) (by kernel_rfl) ⟨hqccr24_1,(by omega),(by rw [Nat.mul_one]; exact cQw_load (by omega) 23 (Try.underlying23) rfl),(by rw [hqccr24_2]; rfl),(iRN2 (by omega) (by omega)),trivial⟩ rfl) (Hd.en_on (⟨i + 1,by omega,(up_next (q:=fun k=>xlN (cQw E) (k * 1)=L.length) hi2 (by omega))⟩) (by show 3 - (i + 1) < 3 - i; omega) rfl)
  ·skip
   have ghqccr24_2:=eqI_false hqccr24_2
   exact goes_leafA isR_e (goes_told Try.checked.mixed (known_none) 200 (T':=qN2_13) (e:=.ret) (ps:=[ltI i 3=true,i < E.length,loadL Try.prog (cQw E) (i * 1) 23=some (AV.xl (xlY (cQw E) (i * 1)) (xlN (cQw E) (i * 1)) 2 (xlC (cQw E) (i * 1))),(!eqI ((xlN (cQw E) (i * 1):Nat):Int) L.length)=true]) [.go,.go,.b true,.go,.go,.go,.sym,.sym,.go,.go,.go,.b true,.go] (by kernel_rfl) (by kernel_rfl) ⟨hqccr24_1,(by omega),(by rw [Nat.mul_one]; exact cQw_load (by omega) 23 (Try.underlying23) rfl),(by rw [hqccr24_2]; rfl),trivial⟩ rfl) (Hd.en_so (by intro h; cases h) (by intro h; cases h) (Hd.en_eq (r:=(.int .i64 15)) (by rw [ccE_eye (cE:=cQw E) (m:=E.length) (cL:=cR L) (n:=L.length) (by omega) (fun h9=>by have h8:=(eyB_true.1 h9).2 i (by omega); omega)]) (Hd.en_ret (v:=(.v (.int .i64 (.ofNat 15)))) (by kernel_rfl) rfl)))
 ·skip
  have ghqccr24_1:=ltI_false hqccr24_1
  obtain rfl:3=i:=by omega
  exact goes_leafA isX_e (goes_told Try.checked.mixed (known_none) 200 (T':=(qN2_6 E L y yl)) (e:=.exit 0) (ps:=[ltI 3 3=false]) [.go,.go,.b false] (by kernel_rfl) (by kernel_rfl) ⟨hqccr24_1,trivial⟩ rfl) (Hd.en_sx (ccr_25 y E yl L hE hqccr10_1 hqccr10_2 hqccr13_1 hi2  hqccr24_1 w hs))
theorem ccr_21 (y:Value) (E:List (Value×List (Int×Int))) (yl:Value) (L:List (Int×Int)) (hE:E.length≤1000) (hqccr10_1:(ltI L.length 1)=false) (hqccr10_2:(ltI 8 L.length)=false) (hqccr13_1:(qN2_17 E)=true) (w:World) (hs:List Nat):Goes Try.prog 58 ccrK18 ((qN2_5 E L y yl)) (BaseW.H w hs) (Hd.AfterN Try.prog 58 ccrK15 w (OutH Try.prog Try.f21 58 (.int .i64 (ccE (cQw E) E.length (cR L) L.length)) w)):=by
 have hcl_L:=cR_len L
 have ghqccr10_1:=ltI_false hqccr10_1
 have ghqccr10_2:=ltI_false hqccr10_2
 have ghqccr13_1:=eqI_true hqccr13_1
 exact Hd.goes_loopA (id:=0) (by kernel_rfl) (by kernel_rfl) (fun i:{i:Nat // i≤3∧∀ k,k < i→xlN (cQw E) (k * 1)=L.length}=>⟨[(1,(.ptr 0 0)),(qN2_12 L),(4,(.v (.int .i64 i.1)))],[],1,[(qN2_9 E L y yl)]⟩) (fun i:{i:Nat // i≤3∧∀ k,k < i→xlN (cQw E) (k * 1)=L.length}=>3 - i.1) (fun ix_ hs=>ccr_23 y E yl L hE hqccr10_1 hqccr10_2 hqccr13_1 ix_.1 ix_.2.1 ix_.2.2 w hs) ⟨0,Nat.zero_le _,(fun j hj=>by omega)⟩ hs
theorem ccr_20 (y:Value) (E:List (Value×List (Int×Int))) (yl:Value) (L:List (Int×Int)) (hE:E.length≤1000) (hqccr10_1:(ltI L.length 1)=false) (hqccr10_2:(ltI 8 L.length)=false) (hqccr13_1:(qN2_17 E)=true) (w:World) (hs:List Nat):Goes Try.prog 58 ccrK18 ((qN2_5 E L y yl)) (BaseW.H w hs) (Hd.AfterN Try.prog 58 ccrK15 w (OutH Try.prog Try.f21 58 (.int .i64 (ccE (cQw E) E.length (cR L) L.length)) w)):=by
 exact ccr_21 y E yl L hE hqccr10_1 hqccr10_2 hqccr13_1 w hs
theorem ccr_17 (y:Value) (E:List (Value×List (Int×Int))) (yl:Value) (L:List (Int×Int)) (hE:E.length≤1000) (hqccr10_1:(ltI L.length 1)=false) (hqccr10_2:(ltI 8 L.length)=false) (hqccr13_1:(qN2_17 E)=true) (w:World) (hs:List Nat):Goes Try.prog 58 ccrK16 ((qN2_6 E L y yl)) (BaseW.H w hs) (Hd.AfterN Try.prog 58 ccrK15 w (OutH Try.prog Try.f21 58 (.int .i64 (ccE (cQw E) E.length (cR L) L.length)) w)):=by
 have hcl_L:=cR_len L
 have ghqccr10_1:=ltI_false hqccr10_1
 have ghqccr10_2:=ltI_false hqccr10_2
 have ghqccr13_1:=eqI_true hqccr13_1
 refine Hd.goes_seqA (by kernel_rfl) ?_
 exact goes_leafA isN_e (goes_told Try.checked.mixed (known_none) 200 (T':=(qN2_5 E L y yl)) (e:=.normal) (ps:=[]) [.go] (by kernel_rfl) (by kernel_rfl) trivial rfl) (Hd.en_n (ccr_20 y E yl L hE hqccr10_1 hqccr10_2 hqccr13_1 w hs))
theorem ccr_14 (y:Value) (E:List (Value×List (Int×Int))) (yl:Value) (L:List (Int×Int)) (hE:E.length≤1000) (hqccr10_1:(ltI L.length 1)=false) (hqccr10_2:(ltI 8 L.length)=false) (hqccr13_1:(qN2_17 E)=true) (w:World) (hs:List Nat):Goes Try.prog 58 ccrK12 ((qN2_6 E L y yl)) (BaseW.H w hs) (OutH Try.prog Try.f21 58 (.int .i64 (ccE (cQw E) E.length (cR L) L.length)) w):=by
 exact Hd.goes_seqA (by kernel_rfl) (ccr_17 y E yl L hE hqccr10_1 hqccr10_2 hqccr13_1 w hs)
theorem ccr_11 (y:Value) (E:List (Value×List (Int×Int))) (yl:Value) (L:List (Int×Int)) (hE:E.length≤1000) (hqccr10_1:(ltI L.length 1)=false) (hqccr10_2:(ltI 8 L.length)=false) (w:World) (hs:List Nat):Goes Try.prog 58 ccrK9 ((qN2_6 E L y yl)) (BaseW.H w hs) (OutH Try.prog Try.f21 58 (.int .i64 (ccE (cQw E) E.length (cR L) L.length)) w):=by
 have hcl_L:=cR_len L
 have ghqccr10_1:=ltI_false hqccr10_1
 have ghqccr10_2:=ltI_false hqccr10_2
 refine Hd.goes_seqA (by kernel_rfl) ?_
 rcases Bool.eq_false_or_eq_true (eqI E.length 3) with hqccr13_1 | hqccr13_1
 ·skip
  have ghqccr13_1:=eqI_true hqccr13_1
  exact goes_leafA isN_e (goes_told Try.checked.mixed (known_none) 200 (T':=(qN2_6 E L y yl)) (e:=.normal) (ps:=[(!eqI E.length 3)=false]) [.go,.go,.go,.go,.b false] (by kernel_rfl) (by kernel_rfl) ⟨(by rw [hqccr13_1]; rfl),trivial⟩ rfl) (Hd.en_n (ccr_14 y E yl L hE hqccr10_1 hqccr10_2 hqccr13_1 w hs))
 ·skip
  have ghqccr13_1:=eqI_false hqccr13_1
  exact goes_leafA isR_e (goes_told Try.checked.mixed (known_none) 200 (T':=qN2_13) (e:=.ret) (ps:=[(!eqI E.length 3)=true]) [.go,.go,.go,.go,.b true,.go] (by kernel_rfl) (by kernel_rfl) ⟨(by rw [hqccr13_1]; rfl),trivial⟩ rfl) (Hd.en_o (by intro h; cases h) (Hd.en_eq (r:=(.int .i64 15)) (by rw [ccE_eye (cE:=cQw E) (m:=E.length) (cL:=cR L) (n:=L.length) (by omega) (fun h9=>by have h8:=(eyB_true.1 h9).1; omega)]) (Hd.en_ret (v:=(.v (.int .i64 (.ofNat 15)))) (by kernel_rfl) rfl)))
theorem ccr_8 (y:Value) (E:List (Value×List (Int×Int))) (yl:Value) (L:List (Int×Int)) (hE:E.length≤1000) (w:World) (hs:List Nat):Goes Try.prog 58 ccrK6 ((qN2_6 E L y yl)) (BaseW.H w hs) (OutH Try.prog Try.f21 58 (.int .i64 (ccE (cQw E) E.length (cR L) L.length)) w):=by
 have hcl_L:=cR_len L
 refine Hd.goes_seqA (by kernel_rfl) ?_
 rcases Bool.eq_false_or_eq_true (ltI L.length 1) with hqccr10_1 | hqccr10_1
 ·skip
  have ghqccr10_1:=ltI_true hqccr10_1
  exact goes_leafA isR_e (goes_told Try.checked.mixed (known_none) 200 (T':=qN2_14) (e:=.ret) (ps:=[ltI L.length 1=true,true=true,true=true]) [.go,.go,.go,.b true,.b true,.go,.b true,.go] (by kernel_rfl) (by kernel_rfl) ⟨hqccr10_1,rfl,rfl,trivial⟩ rfl) (Hd.en_o (by intro h; cases h) (Hd.en_eq (r:=(.int .i64 6)) (by rw [ccE_many (cE:=cQw E) (m:=E.length) (cL:=cR L) (n:=L.length) (by omega)]) (Hd.en_ret (v:=(.v (.int .i64 (.ofNat 6)))) (by kernel_rfl) rfl)))
 ·skip
  have ghqccr10_1:=ltI_false hqccr10_1
  rcases Bool.eq_false_or_eq_true (ltI 8 L.length) with hqccr10_2 | hqccr10_2
  ·skip
   have ghqccr10_2:=ltI_true hqccr10_2
   exact goes_leafA isR_e (goes_told Try.checked.mixed (known_none) 200 (T':=qN2_14) (e:=.ret) (ps:=[ltI L.length 1=false,false=false,ltI 8 L.length=true]) [.go,.go,.go,.b false,.go,.b false,.go,.go,.b true,.go] (by kernel_rfl) (by kernel_rfl) ⟨hqccr10_1,rfl,hqccr10_2,trivial⟩ rfl) (Hd.en_o (by intro h; cases h) (Hd.en_eq (r:=(.int .i64 6)) (by rw [ccE_many (cE:=cQw E) (m:=E.length) (cL:=cR L) (n:=L.length) (by omega)]) (Hd.en_ret (v:=(.v (.int .i64 (.ofNat 6)))) (by kernel_rfl) rfl)))
  ·skip
   have ghqccr10_2:=ltI_false hqccr10_2
   exact goes_leafA isN_e (goes_told Try.checked.mixed (known_none) 200 (T':=(qN2_6 E L y yl)) (e:=.normal) (ps:=[ltI L.length 1=false,false=false,ltI 8 L.length=false]) [.go,.go,.go,.b false,.go,.b false,.go,.go,.b false] (by kernel_rfl) (by kernel_rfl) ⟨hqccr10_1,rfl,hqccr10_2,trivial⟩ rfl) (Hd.en_n (ccr_11 y E yl L hE hqccr10_1 hqccr10_2 w hs))
theorem ccr_5 (y:Value) (E:List (Value×List (Int×Int))) (yl:Value) (L:List (Int×Int)) (hE:E.length≤1000) (w:World) (hs:List Nat):Goes Try.prog 58 ccrK3 ((qN2_8 E L y yl)) (BaseW.H w hs) (OutH Try.prog Try.f21 58 (.int .i64 (ccE (cQw E) E.length (cR L) L.length)) w):=by
 have hcl_L:=cR_len L
 refine Hd.goes_seqA (by kernel_rfl) ?_
 exact goes_leafA isN_e (goes_told Try.checked.mixed (known_none) 200 (T':=(qN2_6 E L y yl)) (e:=.normal) (ps:=[]) [.go,.go,.go,.go] (by kernel_rfl) (by kernel_rfl) trivial rfl) (Hd.en_n (ccr_8 y E yl L hE w hs))
theorem ccr_2 (y:Value) (E:List (Value×List (Int×Int))) (yl:Value) (L:List (Int×Int)) (hE:E.length≤1000) (w:World) (hs:List Nat):Goes Try.prog 58 ccrK1 (⟨[(0,(qN2_10 E L y yl))],[],0,[]⟩) (BaseW.H w hs) (OutH Try.prog Try.f21 58 (.int .i64 (ccE (cQw E) E.length (cR L) L.length)) w):=by
 have hcl_L:=cR_len L
 refine Hd.goes_seqA (by kernel_rfl) ?_
 exact goes_leafA isN_e (goes_told Try.checked.mixed (known_none) 200 (T':=(qN2_8 E L y yl)) (e:=.normal) (ps:=[]) [.go,.go] (by kernel_rfl) (by kernel_rfl) trivial rfl) (Hd.en_n (ccr_5 y E yl L hE w hs))
theorem ccr_g (y:Value) (E:List (Value×List (Int×Int))) (yl:Value) (L:List (Int×Int)) (hE:E.length≤1000):GivesA Try.prog 21 [(qN2_10 E L y yl)] (.int .i64 (ccE (cQw E) E.length (cR L) L.length)) :=
 givesA_partsH 58 Try.func21 (by kernel_rfl) (by kernel_rfl) (by kernel_rfl) (fun w=>goes_less (by kernel_rfl) (by kernel_rfl) (by kernel_rfl) (by kernel_rfl) (ccr_2 y E yl L hE w []))
end
end Go.Proofs.Ytegmogadbnfbgaa
