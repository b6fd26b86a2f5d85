import Derived.Test.YtmankoikpadkpaaC6a
set_option maxHeartbeats 4000000
set_option linter.all false
/- Codes of cases as numbers, and how many cases have one (mathematics). -/
namespace Go.Proofs.Ytmankoikpadkpaa
open Go Ev
noncomputable section
section
variable (L : List Int) (a b : Int) (z : Value)
@[reducible] def qA2_1:Nat×Ev.AB:=(1,(.cells [(.v (.int .i64 (a))),(.v (.int .i64 (b)))] 26))
@[reducible] def qA2_2:Nat×Ev.AV:=(1,(.xl (z) (L.length) 1 (cI L)))
@[reducible] def qA2_3:Nat×Ev.AV:=(5,(.v (.int .i64 (.ofNat 0))))
end
def dgT:Nat→Int→List Int
 | 0,_=>[]
 | m + 1,x=>(Int.tmod x 3 - 1) :: dgT m (Int.tdiv x 3)
theorem dgT_len:∀ (m:Nat) (x:Int),(dgT m x).length=m
 | 0,_=>rfl
 | m + 1,x=>by simp [dgT,dgT_len m]
def cdN:Nat→(Nat→Int)→Int
 | 0,_=>0
 | m + 1,f=>(f 0 + 1) + 3 * cdN m (fun j=>f (j + 1))
def pw3:Nat→Int
 | 0=>1
 | m + 1=>pw3 m * 3
theorem cdN_rng:∀ {m:Nat} {f:Nat→Int},(∀ j,j < m → -1≤f j∧f j≤1)→0≤cdN m f∧cdN m f < pw3 m
 | 0,f,h=>by simp [cdN,pw3]
 | m + 1,f,h=>by
  have h1:=cdN_rng (m:=m) (f:=fun j=>f (j + 1)) (fun j hj=>h (j + 1) (by omega))
  have h0:=h 0 (by omega)
  simp only [cdN,pw3]
  omega
theorem cdN_iff:∀ {m:Nat} {f:Nat→Int} {x:Int},(∀ j,j < m → -1≤f j∧f j≤1)→0≤x→x < pw3 m→((∀ j,j < m→f j=(dgT m x).getD j 0)↔cdN m f=x)
 | 0,f,x,h,h0,h1=>by
  simp only [pw3] at h1
  simp only [cdN]
  constructor
  ·intro _; omega
  ·intro _ j hj; omega
 | m + 1,f,x,h,h0,h1=>by
  have e1:Int.tmod x 3=x % 3:=Int.tmod_eq_emod_of_nonneg h0
  have e2:Int.tdiv x 3=x / 3:=Int.tdiv_eq_ediv_of_nonneg h0
  simp only [pw3] at h1
  have hf:=h 0 (by omega)
  have ih:=cdN_iff (m:=m) (f:=fun j=>f (j + 1)) (x:=x / 3) (fun j hj=>h (j + 1) (by omega)) (by omega) (by omega)
  have hr:=cdN_rng (m:=m) (f:=fun j=>f (j + 1)) (fun j hj=>h (j + 1) (by omega))
  simp only [cdN,dgT,e1,e2]
  constructor
  ·intro k
   have k0:=k 0 (by omega)
   have k1:=ih.1 (fun j hj=>by simpa using k (j + 1) (by omega))
   simp only [List.getD_cons_zero] at k0
   omega
  ·intro k j hj
   match j,hj with
   | 0,_ =>
    simp only [List.getD_cons_zero]
    omega
   | j + 1,hj =>
    have:=ih.2 (by omega) j (by omega)
    simpa using this
def cdH (c:List AV) (m i:Nat):Int:=cdN m (rv c (caseN i).1 (caseN i).2)
def cntE (h:Nat→Int):Nat→Int→Nat
 | 0,_=>0
 | N + 1,k=>cntE h N k + (if h N=k then 1 else 0)
def cntL (h:Nat→Int):Nat→Int→Nat
 | 0,_=>0
 | N + 1,k=>cntL h N k + (if h N < k then 1 else 0)
theorem cntL_next (h:Nat→Int) (k:Int):∀ N,cntL h N (k + 1)=cntL h N k + cntE h N k
 | 0=>rfl
 | N + 1=>by
  simp only [cntL,cntE,cntL_next h k N]
  by_cases h1:h N < k
  ·rw [if_pos h1,if_pos (by omega),if_neg (by omega)]
   omega
  ·by_cases h2:h N=k
   ·rw [if_neg h1,if_pos h2,if_pos (by omega)]
    omega
   ·rw [if_neg h1,if_neg h2,if_neg (by omega)]
    omega
theorem cntL_zero {h:Nat→Int}:∀ {N:Nat},(∀ i,i < N→0≤h i)→cntL h N 0=0
 | 0,_=>rfl
 | N + 1,k=>by rw [cntL,cntL_zero (fun i hi=>k i (by omega)),if_neg (Int.not_lt.2 (k N (by omega)))]
theorem cntL_all {h:Nat→Int} {m:Int}:∀ {N:Nat},(∀ i,i < N→h i < m)→cntL h N m=N
 | 0,_=>rfl
 | N + 1,k=>by rw [cntL,cntL_all (fun i hi=>k i (by omega)),if_pos (k N (by omega))]
theorem cntL_le (h:Nat→Int) (k:Int):∀ N,cntL h N k≤N
 | 0=>Nat.le_refl _
 | N + 1=>by
  have:=cntL_le h k N
  simp only [cntL]
  split <;> omega
theorem got_cnt {M:Int×Int→Bool} {h:Nat→Int} {k:Int}:∀ {N:Nat},(∀ i,i < N→M (caseN i)=decide (h i=k))→(gotL M N).length=cntE h N k
 | 0,_=>rfl
 | N + 1,q=>by
  have ih:=got_cnt (N:=N) (fun i hi=>q i (by omega))
  have e:=q N (by omega)
  by_cases hk:h N=k
  ·rw [got_t (by rw [e]; exact decide_eq_true hk),List.length_append,ih]
   simp only [cntE,if_pos hk,List.length_cons,List.length_nil]
  ·rw [got_f (by rw [e]; exact decide_eq_false hk),ih]
   simp only [cntE,if_neg hk,Nat.add_zero]
theorem got_mem {M:Int×Int→Bool} {q:Int×Int}:∀ {N:Nat},q∈gotL M N→M q=true
 | 0,h=>absurd h List.not_mem_nil
 | N + 1,h=>by
  by_cases hk:M (caseN N)=true
  ·rw [got_t hk] at h
   rcases List.mem_append.1 h with h1 | h1
   ·exact got_mem h1
   ·rw [List.mem_singleton] at h1
    rw [h1]; exact hk
  ·rw [got_f (by simpa using hk)] at h
   exact got_mem h
theorem got_in {M:Int×Int→Bool}:∀ {N i:Nat},i < N→M (caseN i)=true→caseN i∈gotL M N
 | N + 1,i,hi,h=>by
  by_cases e:i < N
  ·have:=got_in e h
   by_cases hk:M (caseN N)=true
   ·rw [got_t hk]; exact List.mem_append_left _ this
   ·rw [got_f (by simpa using hk)]; exact this
  ·obtain rfl:i=N:=by omega
   rw [got_t h]
   exact List.mem_append_right _ List.mem_cons_self
def hsB (c:List AV) (a b:Int):Bool:=decide ((a,b)∈unR c)
theorem hs_got {M:Int×Int→Bool} {N i:Nat} (hi:i < N):hsB (cR (gotL M N)) (caseN i).1 (caseN i).2=M (caseN i):=by
 unfold hsB
 rw [unR_cR]
 cases e:M (caseN i) with
 | true=>exact decide_eq_true (got_in hi e)
 | false=>exact decide_eq_false (fun h=>by rw [got_mem h] at e; cases e)
theorem hs_at {G:List (Int×Int)} {k:Nat} {q:Int×Int} (h:G[k]? = some q):hsB (cR G) q.1 q.2=true:=by
 unfold hsB
 rw [unR_cR]
 exact decide_eq_true (List.mem_of_getElem? h)
theorem hs_no {G:List (Int×Int)} {a b:Int} (h:∀ k,k < G.length→¬ (intAt (cR G) (k * 2)=a∧intAt (cR G) (k * 2 + 1)=b)):hsB (cR G) a b=false:=by
 unfold hsB
 rw [unR_cR]
 refine decide_eq_false (fun hm=>?_)
 obtain ⟨k,hk⟩:=List.mem_iff_getElem?.1 hm
 have hlt:=(List.getElem?_eq_some_iff.1 hk).1
 obtain ⟨h1,h2⟩:=cR_at hk
 exact h k hlt ⟨intAt_of h1,intAt_of h2⟩
theorem hs_yes {G:List (Int×Int)} {a b:Int} {k:Nat} (hk:k < G.length) (h1:intAt (cR G) (k * 2)=a) (h2:intAt (cR G) (k * 2 + 1)=b):hsB (cR G) a b=true:=by
 have hg:G[k]? = some G[k]:=List.getElem?_eq_getElem hk
 obtain ⟨e1,e2⟩:=cR_at hg
 have:=hs_at hg
 rw [← intAt_of e1,← intAt_of e2,h1,h2] at this
 exact this
theorem rv_one {n:Int} {c:List AV} {m:Nat} {i:Nat} {p:Nat} (hE:plE n c m=0) (hn:n=((p:Nat):Int)) (hi:i < 1 + 2 * p):∀ j,j < m → -1≤rv c (caseN i).1 (caseN i).2 j∧rv c (caseN i).1 (caseN i).2 j≤1:=fun j hj=>by
 subst hn
 have hp:=(plE_zero hE).2.1
 have hc:=cas_ca (p:=p) (by omega) hi
 obtain ⟨-,h2,h3,h4,-⟩:=plE_zero hE
 obtain ⟨-,ha,hb⟩:=caB_at hc (by omega)
 have hx:=okS_all.1 (h4 j hj) (caseN i).1.toNat (by rw [plE_len0 hE j hj]; exact ha)
 unfold seenAt at hx
 unfold rv
 generalize intAt (xlC c (j * 1)) ((caseN i).1.toNat * 1)=x at *
 rcases hb with hb | hb | hb <;> rw [hb] <;> omega
theorem cdH_rng {n:Int} {c:List AV} {m i p:Nat} (hE:plE n c m=0) (hn:n=((p:Nat):Int)) (hi:i < 1 + 2 * p):0≤cdH c m i∧cdH c m i < pw3 m:=cdN_rng (rv_one hE hn hi)
theorem see_cd {n:Int} {c:List AV} {m i p:Nat} {x:Int} (hE:plE n c m=0) (hn:n=((p:Nat):Int)) (hi:i < 1 + 2 * p) (h0:0≤x) (h1:x < pw3 m):seeM c m (padF (dgT m x)) (caseN i)=decide (cdH c m i=x):=by
 rw [see_rec (plE_zero hE).1 (dgT_len m x)]
 unfold recM cdH
 exact decide_eq_decide.2 (cdN_iff (rv_one hE hn hi) h0 h1)
def fnB (n:Int) (c:List AV) (m:Nat):Bool:=!grB c m && decide (plE n c m=0)
def fdI (b:Int) (p:Nat):Nat:=(Int.tmod b ((1 + 2 * p:Nat):Int)).toNat
theorem fdI_eq {b:Int} {p:Nat} (h:0≤b∧b≤255):((fdI b p:Nat):Int)=Int.tmod b ((1 + 2 * p:Nat):Int)∧0≤Int.tmod b ((1 + 2 * p:Nat):Int):=by
 have h1:=Int.tmod_nonneg ((1 + 2 * p:Nat):Int) h.1
 unfold fdI
 omega
theorem fdI_lt {b:Int} {p:Nat} (h:0≤b∧b≤255):fdI b p < 1 + 2 * p:=by
 have h1:=Int.tmod_lt_of_pos b (show (0:Int) < ((1 + 2 * p:Nat):Int) by omega)
 have h2:=(fdI_eq (p:=p) h).1
 omega
theorem hs_yes2 {G:List (Int×Int)} {a b:Int} {i:Nat} (hk:i < G.length) (h:(eqI (intAt (cR G) (0 + i * 2 + 0)) a && (eqI (intAt (cR G) (0 + i * 2 + 1)) b && true))=true):hsB (cR G) a b=true:=by
 rw [Bool.and_eq_true,Bool.and_eq_true] at h
 have h1:=eqI_true h.1
 have h2:=eqI_true h.2.1
 rw [show 0 + i * 2 + 0=i * 2 by omega] at h1
 rw [show 0 + i * 2 + 1=i * 2 + 1 by omega] at h2
 exact hs_yes hk h1 h2
theorem hs_step {G:List (Int×Int)} {a b:Int} {i:Nat} (h0:∀ j,j < i→¬ (intAt (cR G) (j * 2)=a∧intAt (cR G) (j * 2 + 1)=b)) (h:(eqI (intAt (cR G) (0 + i * 2 + 0)) a && (eqI (intAt (cR G) (0 + i * 2 + 1)) b && true))=false):∀ j,j < i + 1→¬ (intAt (cR G) (j * 2)=a∧intAt (cR G) (j * 2 + 1)=b):=fun j hj=>by
 by_cases e:j < i
 ·exact h0 j e
 ·obtain rfl:j=i:=by omega
  rw [show 0 + j * 2 + 0=j * 2 by omega,show 0 + j * 2 + 1=j * 2 + 1 by omega] at h
  intro hh
  rw [eqI_iff,eqI_iff,decide_eq_true hh.1,decide_eq_true hh.2] at h
  cases h
noncomputable def fiK1:Code:=bodyC Try.f32
theorem fi_2 (n:Int) (y:Value) (R:List (Value×List Int)) (w:World) (hs:List Nat):Goes Try.prog 11 fiK1 (⟨[(0,(.agg [.v (.int .i64 n),.xl y R.length 1 (cRw R)]))],[],0,[]⟩) (BaseW.H w hs) (OutH Try.prog Try.f32 11 (.bool (fnB n (cRw R) R.length)) w):=by
 rcases Bool.eq_false_or_eq_true (grB (cRw R) R.length) with hqfi3_1 | hqfi3_1
 ·skip
  exact goes_leafA isR_e (goes_told Try.checked.mixed (known_or known_grc known_rpl) 200 (T':=⟨[(2,(.v (.bool .false)))],[],1,[]⟩) (e:=.ret) (ps:=[IsR R.length (cRw R),(!grB (cRw R) R.length)=false,false=false,false=false]) [.go,.go,.go,.go,.go,.b false,.b false,.b false,.go,.go] (by kernel_rfl) (by kernel_rfl) ⟨⟨R,rfl,rfl⟩,(by rw [hqfi3_1]; rfl),rfl,rfl,trivial⟩ rfl) (Hd.en_eq (r:=(.bool .false)) (by simp [fnB,eqI_iff,hqfi3_1]) (Hd.en_ret (v:=(.v (.bool .false))) (by kernel_rfl) rfl))
 ·skip
  exact goes_leafA isR_e (goes_told Try.checked.mixed (known_or known_grc known_rpl) 200 (T':=⟨[(2,(.v (.bool (eqI (plE n (cRw R) R.length) 0))))],[],1,[]⟩) (e:=.ret) (ps:=[IsR R.length (cRw R),(!grB (cRw R) R.length)=true,true=true,IsR R.length (cRw R),true=true]) [.go,.go,.go,.go,.go,.b true,.go,.b true,.b true,.go,.go,.go] (by kernel_rfl) (by kernel_rfl) ⟨⟨R,rfl,rfl⟩,(by rw [hqfi3_1]; rfl),rfl,⟨R,rfl,rfl⟩,rfl,trivial⟩ rfl) (Hd.en_eq (r:=(.bool (eqI (plE n (cRw R) R.length) 0))) (by simp [fnB,eqI_iff,hqfi3_1]) (Hd.en_ret (v:=(.v (.bool (eqI (plE n (cRw R) R.length) 0)))) (by kernel_rfl) rfl))
theorem fine_g (n:Int) (y:Value) (R:List (Value×List Int)):GivesA Try.prog 32 [(.agg [.v (.int .i64 n),.xl y R.length 1 (cRw R)])] (.bool (fnB n (cRw R) R.length)) :=
 givesA_partsH 11 Try.func32 (by kernel_rfl) (by kernel_rfl) (by kernel_rfl) (fun w=>goes_less (by kernel_rfl) (by kernel_rfl) (by kernel_rfl) (by kernel_rfl) (fi_2 n y R w []))
noncomputable def faK1:Code:=bodyC Try.f33
theorem fa_2 (y:Value) (R:List (Value×List Int)) (p:Nat) (b:Int) (hE:plE ((p:Nat):Int) (cRw R) R.length=0) (hb:0≤b∧b≤255) (w:World) (hs:List Nat):Goes Try.prog 16 faK1 (⟨[(0,(.agg [.v (.int .i64 ((p:Nat):Int)),.xl y R.length 1 (cRw R)])),(1,(.v (.int .u8 b)))],[],0,[]⟩) (BaseW.H w hs) (OutH Try.prog Try.f33 16 (.agg #[.int .i64 (caseN (fdI b p)).1,.int .i64 (caseN (fdI b p)).2]) w):=by
 obtain ⟨-,hp,-⟩:=plE_zero hE
 have hi:=fdI_lt (b:=b) (p:=p) hb
 have hf:=fdI_eq (b:=b) (p:=p) hb
 have hwr:IntKind.i64.wrap b=b:=IntWalk.i64_in _ (by omega)
 exact goes_leafA isR_e (goes_told Try.checked.mixed (known_al) 200 (T':=⟨[(4,(.ptr 1 0))],[],3,[(1,(.cells [(.v (.int .i64 (intAt (cR (casL (1 + 2 * p))) (0 + ((IntKind.i64.wrap b).tmod ((1 + 2 * p:Nat):Int)).toNat * 2 + 0)))),(.v (.int .i64 (intAt (cR (casL (1 + 2 * p))) (0 + ((IntKind.i64.wrap b).tmod ((1 + 2 * p:Nat):Int)).toNat * 2 + 1))))] 26))]⟩) (e:=.ret) (ps:=[FreeL (cRw R),IsR R.length (cRw R),plE (((p:Nat):Int)) (cRw R) R.length=0,((1 + 2 * p:Nat):Int)≠0,0≤(IntKind.i64.wrap b).tmod ((1 + 2 * p:Nat):Int),((IntKind.i64.wrap b).tmod ((1 + 2 * p:Nat):Int)).toNat < 1 + 2 * p,loadL Try.prog (cR (casL (1 + 2 * p))) (0 + ((IntKind.i64.wrap b).tmod ((1 + 2 * p:Nat):Int)).toNat * 2) 26=some (AV.agg [AV.v (Value.int IntKind.i64 (intAt (cR (casL (1 + 2 * p))) (0 + ((IntKind.i64.wrap b).tmod ((1 + 2 * p:Nat):Int)).toNat * 2 + 0))),AV.v (Value.int IntKind.i64 (intAt (cR (casL (1 + 2 * p))) (0 + ((IntKind.i64.wrap b).tmod ((1 + 2 * p:Nat):Int)).toNat * 2 + 1)))])]) [.go,.go,.go,.go,.go,.go,.go,.go,.go,.go,.nat,.sym,.go] (by kernel_rfl) (by kernel_rfl) ⟨(freeL_plainR R),⟨R,rfl,rfl⟩,hE,(by omega),(by rw [hwr]; exact hf.2),(by rw [hwr]; exact hi),(by rw [Nat.zero_add]; exact cas_load (by rw [cas_len,hwr]; exact hi)),trivial⟩ rfl) (Hd.en_eq (r:=.agg #[(.int .i64 (intAt (cR (casL (1 + 2 * p))) (0 + ((IntKind.i64.wrap b).tmod ((1 + 2 * p:Nat):Int)).toNat * 2 + 0))),(.int .i64 (intAt (cR (casL (1 + 2 * p))) (0 + ((IntKind.i64.wrap b).tmod ((1 + 2 * p:Nat):Int)).toNat * 2 + 1)))]) (by (rw [hwr]; show Value.agg #[.int .i64 (intAt (cR (casL (1 + 2 * p))) (0 + fdI b p * 2 + 0)),.int .i64 (intAt (cR (casL (1 + 2 * p))) (0 + fdI b p * 2 + 1))]=_; rw [(cas_i hi).1,(cas_i hi).2])) (Hd.en_ret (v:=(.agg [(.v (.int .i64 (intAt (cR (casL (1 + 2 * p))) (0 + ((IntKind.i64.wrap b).tmod ((1 + 2 * p:Nat):Int)).toNat * 2 + 0)))),(.v (.int .i64 (intAt (cR (casL (1 + 2 * p))) (0 + ((IntKind.i64.wrap b).tmod ((1 + 2 * p:Nat):Int)).toNat * 2 + 1))))])) (by kernel_rfl) rfl))
theorem faded_g (y:Value) (R:List (Value×List Int)) (p:Nat) (b:Int) (hE:plE ((p:Nat):Int) (cRw R) R.length=0) (hb:0≤b∧b≤255):GivesA Try.prog 33 [(.agg [.v (.int .i64 ((p:Nat):Int)),.xl y R.length 1 (cRw R)]),(.v (.int .u8 b))] (.agg #[.int .i64 (caseN (fdI b p)).1,.int .i64 (caseN (fdI b p)).2]) :=
 givesA_partsH 16 Try.func33 (by kernel_rfl) (by kernel_rfl) (by kernel_rfl) (fun w=>goes_less (by kernel_rfl) (by kernel_rfl) (by kernel_rfl) (by kernel_rfl) (fa_2 y R p b hE hb w []))
noncomputable def hsK1:Code:=bodyC Try.f34
noncomputable def hsK3:Code:=tlC hsK1
noncomputable def hsK6:Code:=tlC hsK3
noncomputable def hsK7:Code:=(hdC hsK3)
noncomputable def hsK9:Code:=tlC hsK7
noncomputable def hsK13:Code:=loopC hsK9
theorem hs_16 (X:List (Int×Int)) (a b:Int) (hX:X.length≤1000) (h0b:∀ j,j < (X.length)→¬ (intAt (cR X) (j * 2)=a∧intAt (cR X) (j * 2 + 1)=b)) (hqhs15_1:(ltI ((X.length:Nat):Int) ((X.length:Nat):Int))=false) (v:BaseW) (eb:Nat→Option Nat) (ec:Nat→Nat) (hs:List Nat):Goes Try.prog 18 hsK6 (⟨[],[],2,[(0,(.row (cR X) 26 2))]⟩) (BaseW.H (bw v 1 eb ec) hs) (OutM Try.prog Try.f34 18 ((.v (.bool (hsB (cR X) a b)))) [(.row (cR X) 26 2)] (bw v 1 eb ec)):=by
 have hcl_X:=cR_len X
 have ghqhs15_1:=ltI_false hqhs15_1
 exact goes_leafA isR_e (goes_cut Try.checked.mixed (known_none) 200 (T':=⟨[(4,(.v (.bool .false)))],[],1,[(0,(.row (cR X) 26 2))]⟩) (e:=.ret) (m:=2) (ps:=[]) [.go] (by kernel_rfl) (by kernel_rfl) trivial rfl (by show 1≤2; decide) ⟨⟨nb_v _,trivial⟩,⟨⟨by show 0 < 1; decide,nbb_rowP (cR_plain _)⟩,trivial⟩,rfl⟩ (by show 1≤1; decide)) (en_eqM (r:=(.v (.bool .false))) (ys:=[(.row (cR X) 26 2)]) (by rw [hs_no h0b]) (by rfl) (en_retM (by kernel_rfl) (by kernel_rfl) rfl (.inr rfl)))
theorem hs_14 (X:List (Int×Int)) (a b:Int) (hX:X.length≤1000) (i:Nat) (hi1:i≤X.length) (hi2:∀ j,j < i→¬ (intAt (cR X) (j * 2)=a∧intAt (cR X) (j * 2 + 1)=b)) (v:BaseW) (eb:Nat→Option Nat) (ec:Nat→Nat) (hs:List Nat):Goes Try.prog 18 hsK13 (⟨[(0,(.slu 0 0 (X.length) 0)),(3,(.ptr 1 0)),(5,(.v (.int .i64 ((i:Nat):Int))))],[],2,[(0,(.row (cR X) 26 2)),(qA2_1 a b)]⟩) (BaseW.H (bw v 1 eb ec) hs) (Hd.StepC Try.prog 18 0 (fun i:{i:Nat // i≤X.length∧∀ j,j < i→¬ (intAt (cR X) (j * 2)=a∧intAt (cR X) (j * 2 + 1)=b)}=>⟨[(0,(.slu 0 0 (X.length) 0)),(3,(.ptr 1 0)),(5,(.v (.int .i64 ((i.1:Nat):Int))))],[],2,[(0,(.row (cR X) 26 2)),(qA2_1 a b)]⟩) (fun i:{i:Nat // i≤X.length∧∀ j,j < i→¬ (intAt (cR X) (j * 2)=a∧intAt (cR X) (j * 2 + 1)=b)}=>X.length - i.1) hsK6 (bw v 1 eb ec) (OutM Try.prog Try.f34 18 ((.v (.bool (hsB (cR X) a b)))) [(.row (cR X) 26 2)] (bw v 1 eb ec)) (⟨i,hi1,hi2⟩:{i:Nat // i≤X.length∧∀ j,j < i→¬ (intAt (cR X) (j * 2)=a∧intAt (cR X) (j * 2 + 1)=b)})):=by
 have hcl_X:=cR_len X
 rcases Bool.eq_false_or_eq_true (ltI ((i:Nat):Int) ((X.length:Nat):Int)) with hqhs15_1 | hqhs15_1
 ·skip
  have ghqhs15_1:=ltI_true hqhs15_1
  rcases Bool.eq_false_or_eq_true (eqI (intAt (cR X) (0 + i * 2 + 0)) a && (eqI (intAt (cR X) (0 + i * 2 + 1)) b && true)) with hqhs15_2 | hqhs15_2
  ·skip
   exact goes_leafA isR_e (goes_cut Try.checked.mixed (known_none) 200 (T':=⟨[(4,(.v (.bool .true)))],[],1,[(0,(.row (cR X) 26 2))]⟩) (e:=.ret) (m:=2) (ps:=[ltI ((i:Nat):Int) ((X.length:Nat):Int)=true,i < X.length,loadL Try.prog (cR X) (0 + i * 2) 26=some (AV.agg [AV.v (Value.int IntKind.i64 (intAt (cR X) (0 + i * 2 + 0))),AV.v (Value.int IntKind.i64 (intAt (cR X) (0 + i * 2 + 1)))]),(eqI (intAt (cR X) (0 + i * 2 + 0)) a && (eqI (intAt (cR X) (0 + i * 2 + 1)) b && true))=true]) [.go,.go,.go,.go,.b true,.go,.go,.sym,.sym,.go,.go,.b true,.go] (by kernel_rfl) (by kernel_rfl) ⟨hqhs15_1,(by omega),(by rw [Nat.zero_add]; exact cas_load (by omega)),hqhs15_2,trivial⟩ rfl (by show 1≤2; decide) ⟨⟨nb_v _,trivial⟩,⟨⟨by show 0 < 1; decide,nbb_rowP (cR_plain _)⟩,trivial⟩,rfl⟩ (by show 1≤1; decide)) (Hd.en_so (by intro h; cases h) (by intro h; cases h) (en_eqM (r:=(.v (.bool .true))) (ys:=[(.row (cR X) 26 2)]) (by rw [hs_yes2 (i:=i) (by omega) hqhs15_2]) (by rfl) (en_retM (by kernel_rfl) (by kernel_rfl) rfl (.inr rfl))))
  ·skip
   exact goes_leafA isN_e (goes_told Try.checked.mixed (known_none) 200 (T':=⟨[(0,(.slu 0 0 (X.length) 0)),(3,(.ptr 1 0)),(5,(.v (.int .i64 (((i + 1):Nat):Int))))],[],2,[(0,(.row (cR X) 26 2)),(qA2_1 a b)]⟩) (e:=.normal) (ps:=[ltI ((i:Nat):Int) ((X.length:Nat):Int)=true,i < X.length,loadL Try.prog (cR X) (0 + i * 2) 26=some (AV.agg [AV.v (Value.int IntKind.i64 (intAt (cR X) (0 + i * 2 + 0))),AV.v (Value.int IntKind.i64 (intAt (cR X) (0 + i * 2 + 1)))]),(eqI (intAt (cR X) (0 + i * 2 + 0)) a && (eqI (intAt (cR X) (0 + i * 2 + 1)) b && true))=false,inR IntKind.i64 (((i:Nat):Int) + 1)]) [.go,.go,.go,.go,.b true,.go,.go,.sym,.sym,.go,.go,.b false,.go,.go,.go] (by kernel_rfl) (by kernel_rfl) ⟨hqhs15_1,(by omega),(by rw [Nat.zero_add]; exact cas_load (by omega)),hqhs15_2,(by show -9223372036854775808≤_∧_≤9223372036854775807; constructor <;> omega),trivial⟩ rfl) (Hd.en_on (⟨i + 1,by omega,(hs_step hi2 hqhs15_2)⟩) (by show X.length - (i + 1) < X.length - i; omega) rfl)
 ·skip
  have ghqhs15_1:=ltI_false hqhs15_1
  obtain rfl:i=X.length:=by omega
  exact goes_leafA isX_e (goes_told Try.checked.mixed (known_none) 200 (T':=⟨[],[],2,[(0,(.row (cR X) 26 2))]⟩) (e:=.exit 0) (ps:=[ltI ((X.length:Nat):Int) ((X.length:Nat):Int)=false]) [.go,.go,.go,.go,.b false] (by kernel_rfl) (by kernel_rfl) ⟨hqhs15_1,trivial⟩ rfl) (Hd.en_sx (hs_16 X a b hX hi2  hqhs15_1 v eb ec hs))
theorem hs_12 (X:List (Int×Int)) (a b:Int) (hX:X.length≤1000) (v:BaseW) (eb:Nat→Option Nat) (ec:Nat→Nat) (hs:List Nat):Goes Try.prog 18 hsK9 (⟨[(0,(.slu 0 0 (X.length) 0)),(3,(.ptr 1 0)),qA2_3],[],2,[(0,(.row (cR X) 26 2)),(qA2_1 a b)]⟩) (BaseW.H (bw v 1 eb ec) hs) (Hd.AfterN Try.prog 18 hsK6 (bw v 1 eb ec) (OutM Try.prog Try.f34 18 ((.v (.bool (hsB (cR X) a b)))) [(.row (cR X) 26 2)] (bw v 1 eb ec))):=by
 have hcl_X:=cR_len X
 exact Hd.goes_loopA (id:=0) (by kernel_rfl) (by kernel_rfl) (fun i:{i:Nat // i≤X.length∧∀ j,j < i→¬ (intAt (cR X) (j * 2)=a∧intAt (cR X) (j * 2 + 1)=b)}=>⟨[(0,(.slu 0 0 (X.length) 0)),(3,(.ptr 1 0)),(5,(.v (.int .i64 ((i.1:Nat):Int))))],[],2,[(0,(.row (cR X) 26 2)),(qA2_1 a b)]⟩) (fun i:{i:Nat // i≤X.length∧∀ j,j < i→¬ (intAt (cR X) (j * 2)=a∧intAt (cR X) (j * 2 + 1)=b)}=>X.length - i.1) (fun ix_ hs=>hs_14 X a b hX ix_.1 ix_.2.1 ix_.2.2 v eb ec hs) ⟨0,Nat.zero_le _,(fun j hj=>by omega)⟩ hs
theorem hs_11 (X:List (Int×Int)) (a b:Int) (hX:X.length≤1000) (v:BaseW) (eb:Nat→Option Nat) (ec:Nat→Nat) (hs:List Nat):Goes Try.prog 18 hsK9 (⟨[(0,(.slu 0 0 (X.length) 0)),(3,(.ptr 1 0)),qA2_3],[],2,[(0,(.row (cR X) 26 2)),(qA2_1 a b)]⟩) (BaseW.H (bw v 1 eb ec) hs) (Hd.AfterN Try.prog 18 hsK6 (bw v 1 eb ec) (OutM Try.prog Try.f34 18 ((.v (.bool (hsB (cR X) a b)))) [(.row (cR X) 26 2)] (bw v 1 eb ec))):=by
 exact hs_12 X a b hX v eb ec hs
theorem hs_8 (X:List (Int×Int)) (a b:Int) (hX:X.length≤1000) (v:BaseW) (eb:Nat→Option Nat) (ec:Nat→Nat) (hs:List Nat):Goes Try.prog 18 hsK7 (⟨[(0,(.slu 0 0 (X.length) 0)),(3,(.ptr 1 0))],[],2,[(0,(.row (cR X) 26 2)),(qA2_1 a b)]⟩) (BaseW.H (bw v 1 eb ec) hs) (Hd.AfterN Try.prog 18 hsK6 (bw v 1 eb ec) (OutM Try.prog Try.f34 18 ((.v (.bool (hsB (cR X) a b)))) [(.row (cR X) 26 2)] (bw v 1 eb ec))):=by
 have hcl_X:=cR_len X
 refine Hd.goes_seqA (by kernel_rfl) ?_
 exact goes_leafA isN_e (goes_told Try.checked.mixed (known_none) 200 (T':=⟨[(0,(.slu 0 0 (X.length) 0)),(3,(.ptr 1 0)),qA2_3],[],2,[(0,(.row (cR X) 26 2)),(qA2_1 a b)]⟩) (e:=.normal) (ps:=[]) [.go] (by kernel_rfl) (by kernel_rfl) trivial rfl) (Hd.en_n (hs_11 X a b hX v eb ec hs))
theorem hs_5 (X:List (Int×Int)) (a b:Int) (hX:X.length≤1000) (v:BaseW) (eb:Nat→Option Nat) (ec:Nat→Nat) (hs:List Nat):Goes Try.prog 18 hsK3 (⟨[(0,(.slu 0 0 (X.length) 0)),(3,(.ptr 1 0))],[],2,[(0,(.row (cR X) 26 2)),(qA2_1 a b)]⟩) (BaseW.H (bw v 1 eb ec) hs) (OutM Try.prog Try.f34 18 ((.v (.bool (hsB (cR X) a b)))) [(.row (cR X) 26 2)] (bw v 1 eb ec)):=by
 exact Hd.goes_seqA (by kernel_rfl) (hs_8 X a b hX v eb ec hs)
theorem hs_2 (X:List (Int×Int)) (a b:Int) (hX:X.length≤1000) (v:BaseW) (eb:Nat→Option Nat) (ec:Nat→Nat) (hs:List Nat):Goes Try.prog 18 hsK1 (⟨[(0,(.slu 0 0 X.length 0)),(1,(.agg [.v (.int .i64 a),.v (.int .i64 b)]))],[],1,[(0,(.row (cR X) 26 2))]⟩) (BaseW.H (bw v 1 eb ec) hs) (OutM Try.prog Try.f34 18 ((.v (.bool (hsB (cR X) a b)))) [(.row (cR X) 26 2)] (bw v 1 eb ec)):=by
 have hcl_X:=cR_len X
 refine Hd.goes_seqA (by kernel_rfl) ?_
 exact goes_leafA isN_e (goes_told Try.checked.mixed (known_none) 200 (T':=⟨[(0,(.slu 0 0 (X.length) 0)),(3,(.ptr 1 0))],[],2,[(0,(.row (cR X) 26 2)),(qA2_1 a b)]⟩) (e:=.normal) (ps:=[]) [.go,.go] (by kernel_rfl) (by kernel_rfl) trivial rfl) (Hd.en_n (hs_5 X a b hX v eb ec hs))
theorem has_1 (X:List (Int×Int)) (a b:Int) (hX:X.length≤1000):GivesM Try.prog 34 [(.slu 0 0 X.length 0),(.agg [.v (.int .i64 a),.v (.int .i64 b)])] [(.row (cR X) 26 2)] ((.v (.bool (hsB (cR X) a b)))) [(.row (cR X) 26 2)] :=
 givesM_parts 18 (by kernel_rfl) Try.func34 (by kernel_rfl) (by kernel_rfl) (by kernel_rfl) (fun v eb ec=>goes_less (by kernel_rfl) (by kernel_rfl) (by kernel_rfl) (by kernel_rfl) (hs_2 X a b hX v eb ec []))
noncomputable def hzK1:Code:=bodyC Try.f34
theorem hz_2 (a b:Int) (v:BaseW) (eb:Nat→Option Nat) (ec:Nat→Nat) (hs:List Nat):Goes Try.prog 18 hzK1 (⟨[(0,(.v (.slice none 0 0))),(1,(.agg [.v (.int .i64 a),.v (.int .i64 b)]))],[],0,[]⟩) (BaseW.H (bw v 0 eb ec) hs) (OutM Try.prog Try.f34 18 ((.v (.bool false))) [] (bw v 0 eb ec)):=by
 exact goes_leafA isR_e (goes_cut Try.checked.mixed (known_none) 200 (T':=⟨[(4,(.v (.bool .false)))],[],0,[]⟩) (e:=.ret) (m:=1) (ps:=[ltI 0 ((0:Nat):Int)=false]) [.go,.go,.go,.go,.go,.go,.go,.b false,.go] (by kernel_rfl) (by kernel_rfl) ⟨rfl,trivial⟩ rfl (by show 0≤1; decide) ⟨⟨nb_v _,trivial⟩,trivial,rfl⟩ (by show 0≤0; decide)) (en_eqM (r:=(.v (.bool .false))) (ys:=[]) (by rfl) (by rfl) (en_retM (by kernel_rfl) (by kernel_rfl) rfl (.inr rfl)))
theorem has_0 (a b:Int):GivesM Try.prog 34 [(.v (.slice none 0 0)),(.agg [.v (.int .i64 a),.v (.int .i64 b)])] [] ((.v (.bool false))) [] :=
 givesM_parts 18 (by kernel_rfl) Try.func34 (by kernel_rfl) (by kernel_rfl) (by kernel_rfl) (fun v eb ec=>goes_less (by kernel_rfl) (by kernel_rfl) (by kernel_rfl) (by kernel_rfl) (hz_2 a b v eb ec []))
noncomputable def sxK1:Code:=bodyC Try.f20
noncomputable def sxK3:Code:=tlC sxK1
noncomputable def sxK6:Code:=tlC sxK3
noncomputable def sxK9:Code:=tlC sxK6
noncomputable def sxK10:Code:=(hdC sxK6)
noncomputable def sxK12:Code:=tlC sxK10
noncomputable def sxK16:Code:=loopC sxK12
theorem sx_19 (y z:Value) (X L:List Int) (hX:X.length≤1000) (hqsx7_1:(eqI ((X.length:Nat):Int) ((L.length:Nat):Int))=true) (h0b:∀ j,j < (X.length)→intAt (cI X) j=intAt (cI L) j) (hqsx18_1:(ltI ((X.length:Nat):Int) ((X.length:Nat):Int))=false) (w:World) (hs:List Nat):Goes Try.prog 26 sxK9 (⟨[],[],0,[]⟩) (BaseW.H w hs) (OutH Try.prog Try.f20 26 (.bool (smB (cI X) (cI L))) w):=by
 have hcl_X:=cI_len X
 have hcl_L:=cI_len L
 have ghqsx7_1:=eqI_true hqsx7_1
 have ghqsx18_1:=ltI_false hqsx18_1
 exact goes_leafA isR_e (goes_told Try.checked.mixed (known_none) 200 (T':=⟨[(4,(.v (.bool .true)))],[],0,[]⟩) (e:=.ret) (ps:=[]) [.go] (by kernel_rfl) (by kernel_rfl) trivial rfl) (Hd.en_eq (r:=(.bool .true)) (by rw [sm_ok (by omega) (fun j hj=>h0b j hj)]) (Hd.en_ret (v:=(.v (.bool .true))) (by kernel_rfl) rfl))
theorem sx_17 (y z:Value) (X L:List Int) (hX:X.length≤1000) (hqsx7_1:(eqI ((X.length:Nat):Int) ((L.length:Nat):Int))=true) (i:Nat) (hi1:i≤X.length) (hi2:∀ j,j < i→intAt (cI X) j=intAt (cI L) j) (w:World) (hs:List Nat):Goes Try.prog 26 sxK16 (⟨[(0,(.xl (y) (X.length) 1 (cI X))),(qA2_2 L z),(5,(.v (.int .i64 ((i:Nat):Int))))],[],0,[]⟩) (BaseW.H w hs) (Hd.StepC Try.prog 26 0 (fun i:{i:Nat // i≤X.length∧∀ j,j < i→intAt (cI X) j=intAt (cI L) j}=>⟨[(0,(.xl (y) (X.length) 1 (cI X))),(qA2_2 L z),(5,(.v (.int .i64 ((i.1:Nat):Int))))],[],0,[]⟩) (fun i:{i:Nat // i≤X.length∧∀ j,j < i→intAt (cI X) j=intAt (cI L) j}=>X.length - i.1) sxK9 w (OutH Try.prog Try.f20 26 (.bool (smB (cI X) (cI L))) w) (⟨i,hi1,hi2⟩:{i:Nat // i≤X.length∧∀ j,j < i→intAt (cI X) j=intAt (cI L) j})):=by
 have hcl_X:=cI_len X
 have hcl_L:=cI_len L
 have ghqsx7_1:=eqI_true hqsx7_1
 rcases Bool.eq_false_or_eq_true (ltI ((i:Nat):Int) ((X.length:Nat):Int)) with hqsx18_1 | hqsx18_1
 ·skip
  have ghqsx18_1:=ltI_true hqsx18_1
  rcases Bool.eq_false_or_eq_true (eqI (intAt (cI X) (i * 1)) (intAt (cI L) (i * 1))) with hqsx18_2 | hqsx18_2
  ·skip
   have ghqsx18_2:=eqI_true hqsx18_2
   exact goes_leafA isN_e (goes_told Try.checked.mixed (known_none) 200 (T':=⟨[(0,(.xl (y) (X.length) 1 (cI X))),(qA2_2 L z),(5,(.v (.int .i64 (((i + 1):Nat):Int))))],[],0,[]⟩) (e:=.normal) (ps:=[ltI ((i:Nat):Int) ((X.length:Nat):Int)=true,i < X.length,loadL Try.prog (cI X) (i * 1) 3=some (AV.v (Value.int IntKind.i64 (intAt (cI X) (i * 1)))),i < L.length,loadL Try.prog (cI L) (i * 1) 3=some (AV.v (Value.int IntKind.i64 (intAt (cI L) (i * 1)))),(!eqI (intAt (cI X) (i * 1)) (intAt (cI L) (i * 1)))=false,inR IntKind.i64 (((i:Nat):Int) + 1)]) [.go,.go,.go,.go,.b true,.go,.go,.sym,.sym,.go,.go,.sym,.sym,.go,.b false,.go,.go,.go] (by kernel_rfl) (by kernel_rfl) ⟨hqsx18_1,(by omega),(by rw [Nat.mul_one]; exact cI_load (show _ < X.length by omega) 3 (Try.underlying3) rfl),(by omega),(by rw [Nat.mul_one]; exact cI_load (show _ < L.length by omega) 3 (Try.underlying3) rfl),(by rw [hqsx18_2]; rfl),(by show -9223372036854775808≤_∧_≤9223372036854775807; constructor <;> omega),trivial⟩ rfl) (Hd.en_on (⟨i + 1,by omega,(eq_next hi2 (by have h9:=eqI_true hqsx18_2; rw [Nat.mul_one] at h9; exact h9))⟩) (by show X.length - (i + 1) < X.length - i; omega) rfl)
  ·skip
   have ghqsx18_2:=eqI_false hqsx18_2
   exact goes_leafA isR_e (goes_told Try.checked.mixed (known_none) 200 (T':=⟨[(4,(.v (.bool .false)))],[],0,[]⟩) (e:=.ret) (ps:=[ltI ((i:Nat):Int) ((X.length:Nat):Int)=true,i < X.length,loadL Try.prog (cI X) (i * 1) 3=some (AV.v (Value.int IntKind.i64 (intAt (cI X) (i * 1)))),i < L.length,loadL Try.prog (cI L) (i * 1) 3=some (AV.v (Value.int IntKind.i64 (intAt (cI L) (i * 1)))),(!eqI (intAt (cI X) (i * 1)) (intAt (cI L) (i * 1)))=true]) [.go,.go,.go,.go,.b true,.go,.go,.sym,.sym,.go,.go,.sym,.sym,.go,.b true,.go] (by kernel_rfl) (by kernel_rfl) ⟨hqsx18_1,(by omega),(by rw [Nat.mul_one]; exact cI_load (show _ < X.length by omega) 3 (Try.underlying3) rfl),(by omega),(by rw [Nat.mul_one]; exact cI_load (show _ < L.length by omega) 3 (Try.underlying3) rfl),(by rw [hqsx18_2]; rfl),trivial⟩ rfl) (Hd.en_so (by intro h; cases h) (by intro h; cases h) (Hd.en_eq (r:=(.bool .false)) (by rw [sm_no (i:=i) (by omega) (by omega) (by have h9:=eqI_false hqsx18_2; rw [Nat.mul_one] at h9; exact h9)]) (Hd.en_ret (v:=(.v (.bool .false))) (by kernel_rfl) rfl)))
 ·skip
  have ghqsx18_1:=ltI_false hqsx18_1
  obtain rfl:i=X.length:=by omega
  exact goes_leafA isX_e (goes_told Try.checked.mixed (known_none) 200 (T':=⟨[],[],0,[]⟩) (e:=.exit 0) (ps:=[ltI ((X.length:Nat):Int) ((X.length:Nat):Int)=false]) [.go,.go,.go,.go,.b false] (by kernel_rfl) (by kernel_rfl) ⟨hqsx18_1,trivial⟩ rfl) (Hd.en_sx (sx_19 y z X L hX hqsx7_1 hi2  hqsx18_1 w hs))
theorem sx_15 (y z:Value) (X L:List Int) (hX:X.length≤1000) (hqsx7_1:(eqI ((X.length:Nat):Int) ((L.length:Nat):Int))=true) (w:World) (hs:List Nat):Goes Try.prog 26 sxK12 (⟨[(0,(.xl (y) (X.length) 1 (cI X))),(qA2_2 L z),qA2_3],[],0,[]⟩) (BaseW.H w hs) (Hd.AfterN Try.prog 26 sxK9 w (OutH Try.prog Try.f20 26 (.bool (smB (cI X) (cI L))) w)):=by
 have hcl_X:=cI_len X
 have hcl_L:=cI_len L
 have ghqsx7_1:=eqI_true hqsx7_1
 exact Hd.goes_loopA (id:=0) (by kernel_rfl) (by kernel_rfl) (fun i:{i:Nat // i≤X.length∧∀ j,j < i→intAt (cI X) j=intAt (cI L) j}=>⟨[(0,(.xl (y) (X.length) 1 (cI X))),(qA2_2 L z),(5,(.v (.int .i64 ((i.1:Nat):Int))))],[],0,[]⟩) (fun i:{i:Nat // i≤X.length∧∀ j,j < i→intAt (cI X) j=intAt (cI L) j}=>X.length - i.1) (fun ix_ hs=>sx_17 y z X L hX hqsx7_1 ix_.1 ix_.2.1 ix_.2.2 w hs) ⟨0,Nat.zero_le _,(fun j hj=>by omega)⟩ hs
theorem sx_14 (y z:Value) (X L:List Int) (hX:X.length≤1000) (hqsx7_1:(eqI ((X.length:Nat):Int) ((L.length:Nat):Int))=true) (w:World) (hs:List Nat):Goes Try.prog 26 sxK12 (⟨[(0,(.xl (y) (X.length) 1 (cI X))),(qA2_2 L z),qA2_3],[],0,[]⟩) (BaseW.H w hs) (Hd.AfterN Try.prog 26 sxK9 w (OutH Try.prog Try.f20 26 (.bool (smB (cI X) (cI L))) w)):=by
 exact sx_15 y z X L hX hqsx7_1 w hs
theorem sx_11 (y z:Value) (X L:List Int) (hX:X.length≤1000) (hqsx7_1:(eqI ((X.length:Nat):Int) ((L.length:Nat):Int))=true) (w:World) (hs:List Nat):Goes Try.prog 26 sxK10 (⟨[(0,(.xl (y) (X.length) 1 (cI X))),(qA2_2 L z)],[],0,[]⟩) (BaseW.H w hs) (Hd.AfterN Try.prog 26 sxK9 w (OutH Try.prog Try.f20 26 (.bool (smB (cI X) (cI L))) w)):=by
 have hcl_X:=cI_len X
 have hcl_L:=cI_len L
 have ghqsx7_1:=eqI_true hqsx7_1
 refine Hd.goes_seqA (by kernel_rfl) ?_
 exact goes_leafA isN_e (goes_told Try.checked.mixed (known_none) 200 (T':=⟨[(0,(.xl (y) (X.length) 1 (cI X))),(qA2_2 L z),qA2_3],[],0,[]⟩) (e:=.normal) (ps:=[]) [.go] (by kernel_rfl) (by kernel_rfl) trivial rfl) (Hd.en_n (sx_14 y z X L hX hqsx7_1 w hs))
theorem sx_8 (y z:Value) (X L:List Int) (hX:X.length≤1000) (hqsx7_1:(eqI ((X.length:Nat):Int) ((L.length:Nat):Int))=true) (w:World) (hs:List Nat):Goes Try.prog 26 sxK6 (⟨[(0,(.xl (y) (X.length) 1 (cI X))),(qA2_2 L z)],[],0,[]⟩) (BaseW.H w hs) (OutH Try.prog Try.f20 26 (.bool (smB (cI X) (cI L))) w):=by
 exact Hd.goes_seqA (by kernel_rfl) (sx_11 y z X L hX hqsx7_1 w hs)
theorem sx_5 (y z:Value) (X L:List Int) (hX:X.length≤1000) (w:World) (hs:List Nat):Goes Try.prog 26 sxK3 (⟨[(0,(.xl (y) (X.length) 1 (cI X))),(qA2_2 L z)],[],0,[]⟩) (BaseW.H w hs) (OutH Try.prog Try.f20 26 (.bool (smB (cI X) (cI L))) w):=by
 have hcl_X:=cI_len X
 have hcl_L:=cI_len L
 refine Hd.goes_seqA (by kernel_rfl) ?_
 rcases Bool.eq_false_or_eq_true (eqI ((X.length:Nat):Int) ((L.length:Nat):Int)) with hqsx7_1 | hqsx7_1
 ·skip
  have ghqsx7_1:=eqI_true hqsx7_1
  exact goes_leafA isN_e (goes_told Try.checked.mixed (known_none) 200 (T':=⟨[(0,(.xl (y) (X.length) 1 (cI X))),(qA2_2 L z)],[],0,[]⟩) (e:=.normal) (ps:=[(!eqI ((X.length:Nat):Int) ((L.length:Nat):Int))=false]) [.go,.go,.go,.go,.go,.b false] (by kernel_rfl) (by kernel_rfl) ⟨(by rw [hqsx7_1]; rfl),trivial⟩ rfl) (Hd.en_n (sx_8 y z X L hX hqsx7_1 w hs))
 ·skip
  have ghqsx7_1:=eqI_false hqsx7_1
  exact goes_leafA isR_e (goes_told Try.checked.mixed (known_none) 200 (T':=⟨[(4,(.v (.bool .false)))],[],0,[]⟩) (e:=.ret) (ps:=[(!eqI ((X.length:Nat):Int) ((L.length:Nat):Int))=true]) [.go,.go,.go,.go,.go,.b true,.go] (by kernel_rfl) (by kernel_rfl) ⟨(by rw [hqsx7_1]; rfl),trivial⟩ rfl) (Hd.en_o (by intro h; cases h) (Hd.en_eq (r:=(.bool .false)) (by rw [sm_len (by omega)]) (Hd.en_ret (v:=(.v (.bool .false))) (by kernel_rfl) rfl)))
theorem sx_2 (y z:Value) (X L:List Int) (hX:X.length≤1000) (w:World) (hs:List Nat):Goes Try.prog 26 sxK1 (⟨[(0,(.xl y X.length 1 (cI X))),(1,(.xl z L.length 1 (cI L)))],[],0,[]⟩) (BaseW.H w hs) (OutH Try.prog Try.f20 26 (.bool (smB (cI X) (cI L))) w):=by
 have hcl_X:=cI_len X
 have hcl_L:=cI_len L
 refine Hd.goes_seqA (by kernel_rfl) ?_
 exact goes_leafA isN_e (goes_told Try.checked.mixed (known_none) 200 (T':=⟨[(0,(.xl (y) (X.length) 1 (cI X))),(qA2_2 L z)],[],0,[]⟩) (e:=.normal) (ps:=[]) [.go] (by kernel_rfl) (by kernel_rfl) trivial rfl) (Hd.en_n (sx_5 y z X L hX w hs))
theorem same_x (y z:Value) (X L:List Int) (hX:X.length≤1000):GivesA Try.prog 20 [(.xl y X.length 1 (cI X)),(.xl z L.length 1 (cI L))] (.bool (smB (cI X) (cI L))) :=
 givesA_partsH 26 Try.func20 (by kernel_rfl) (by kernel_rfl) (by kernel_rfl) (fun w=>goes_less (by kernel_rfl) (by kernel_rfl) (by kernel_rfl) (by kernel_rfl) (sx_2 y z X L hX w []))
end
end Go.Proofs.Ytmankoikpadkpaa
