import Derived.Test.YtldekgkjofgacaaZ15
set_option maxHeartbeats 4000000
set_option linter.all false
/- The first contradiction of a lamp. -/
namespace Go.Proofs.Ytldekgkjofgacaa
open Go Ev
noncomputable section
theorem hcZ16 (A:List Int) (B:List Bool) (L:PR) (W:List Int):(cI A).length=A.length∧(cR L).length=L.length * 2∧(cB B).length=B.length∧(cI W).length=W.length:=⟨cI_len A,cR_len L,cB_len B,cI_len W⟩
section
variable (A : List Int) (B : List Bool) (L : PR) (W : List Int) (k : Nat) (ya yf yl yw : Value)
abbrev q16_17:Nat×Ev.AV:=(4,(.v (.int .i64 k)))
abbrev q16_14:Nat×Ev.AV:=(9,(.v (.int .i64 A.length)))
abbrev q16_15:Nat×Ev.AV:=(10,(.v (.int .i64 k)))
abbrev q16_16:Nat×Ev.AV:=(13,(.v (.int .i64 k)))
abbrev q16_9:Nat×Ev.AB:=(0,(.cells [(.xl (ya) (A.length) 1 (cI A)),(.xl (yl) (L.length) 2 (cR L)),(.xl (yf) (B.length) 1 (cB B)),(.xl (yw) (W.length) 1 (cI W))] 26))
abbrev q16_13:Ev.AB:=(.cells [(.v (.int .i64 (.ofNat 0))),(.v (.int .i64 (.ofNat 0)))] 86)
abbrev q16_11:Nat×Ev.AB:=(1,q16_13)
abbrev q16_12:Nat×Ev.AB:=(2,q16_13)
abbrev q16_1:Ev.Lit:=⟨[(1,(.ptr 0 0)),(2,(.ptr 1 0)),(3,(.ptr 2 0)),(q16_17 k),(q16_14 A),(q16_15 k),(q16_16 k),(14,(.v (.int .i64 (.ofNat 0))))],[],3,[(q16_9 A B L W ya yf yl yw),q16_11,q16_12]⟩
abbrev q16_2:Ev.Lit:=⟨[(1,(.ptr 0 0)),(2,(.ptr 1 0)),(3,(.ptr 2 0)),(q16_14 A),(q16_15 k),(11,(.v (.bool (ltI k A.length))))],[],3,[(q16_9 A B L W ya yf yl yw),q16_11,q16_12]⟩
abbrev q16_3:Ev.Lit:=⟨[(1,(.ptr 0 0)),(2,(.ptr 1 0)),(3,(.ptr 2 0)),(q16_17 k),(q16_14 A),(q16_15 k)],[],3,[(q16_9 A B L W ya yf yl yw),q16_11,q16_12]⟩
abbrev q16_4:Ev.Lit:=⟨[(1,(.ptr 0 0)),(2,(.ptr 1 0)),(3,(.ptr 2 0)),(q16_14 A),(q16_15 k)],[],3,[(q16_9 A B L W ya yf yl yw),q16_11,q16_12]⟩
abbrev q16_5:Ev.Lit:=⟨[(1,(.ptr 0 0)),(2,(.ptr 1 0)),(3,(.ptr 2 0)),(q16_14 A),(10,(.v (.int .i64 (.ofNat 0))))],[],3,[(q16_9 A B L W ya yf yl yw),q16_11,q16_12]⟩
abbrev q16_6:Ev.Lit:=⟨[(1,(.ptr 0 0)),(2,(.ptr 1 0)),(3,(.ptr 2 0))],[],3,[(q16_9 A B L W ya yf yl yw),q16_11,q16_12]⟩
abbrev q16_7:Ev.Lit:=⟨[(1,(.ptr 0 0)),(2,(.ptr 1 0))],[],2,[(q16_9 A B L W ya yf yl yw),q16_11]⟩
abbrev q16_8:Ev.Lit:=⟨[(2,(.ptr 1 0)),(3,(.ptr 2 0))],[],3,[q16_11,q16_12]⟩
end
open Classical in
def fdRow (B L:List AV) (k:Nat):Nat→Option Nat
 | 0=>none
 | m + 1=>match fdRow B L k m with
  | some j=>some j
  | none=>if dbP B L m k then some m else none
def fdAll (B L:List AV):Nat→Option (Nat×Nat)
 | 0=>none
 | k + 1=>match fdAll B L k with
  | some p=>some p
  | none=>match fdRow B L k k with
   | some j=>some (j,k)
   | none=>none
section
variable {B L : List AV}
theorem fdRow_none {k:Nat}:∀ {m:Nat},(∀ j,j < m→¬ dbP B L j k)→fdRow B L k m=none
 | 0,_=>rfl
 | m + 1,h=>by simp only [fdRow,fdRow_none (m:=m) (fun j hj=>h j (by omega)),if_neg (h m (by omega))]
theorem fdRow_some {k j:Nat} (h:∀ i,i < j→¬ dbP B L i k) (hj:dbP B L j k):∀ {m:Nat},j < m→fdRow B L k m=some j
 | 0,hm=>by omega
 | m + 1,hm=>by
  by_cases e:j < m
  ·simp only [fdRow,fdRow_some h hj e]
  ·obtain rfl:j=m:=by omega
   simp only [fdRow,fdRow_none h,if_pos hj]
theorem fdAll_none:∀ {n:Nat},(∀ k,k < n→∀ j,j < k→¬ dbP B L j k)→fdAll B L n=none
 | 0,_=>rfl
 | n + 1,h=>by simp only [fdAll,fdAll_none (n:=n) (fun k hk=>h k (by omega)),fdRow_none (h n (by omega))]
theorem fdAll_some {j k:Nat} (h:∀ k',k' < k→∀ j,j < k'→¬ dbP B L j k') (h2:∀ i,i < j→¬ dbP B L i k) (hd:dbP B L j k) (hj:j < k):∀ {n:Nat},k < n→fdAll B L n=some (j,k)
 | 0,hn=>by omega
 | n + 1,hn=>by
  by_cases e:k < n
  ·simp only [fdAll,fdAll_some h h2 hd hj e]
  ·obtain rfl:k=n:=by omega
   simp only [fdAll,fdAll_none h,fdRow_some h2 hd hj]
theorem fdRow_of {k:Nat}:∀ {m j:Nat},fdRow B L k m=some j→j < m∧dbP B L j k
 | 0,j,h=>by cases h
 | m + 1,j,h=>by
  unfold fdRow at h
  split at h
  ·rename_i q; cases h; have:=fdRow_of q; exact ⟨by omega,this.2⟩
  ·split at h
   ·cases h; exact ⟨by omega,‹_›⟩
   ·cases h
theorem fdAll_of:∀ {n:Nat} {p:Nat×Nat},fdAll B L n=some p→p.1 < p.2∧p.2 < n∧dbP B L p.1 p.2
 | 0,p,h=>by cases h
 | n + 1,p,h=>by
  unfold fdAll at h
  split at h
  ·rename_i q; cases h; have:=fdAll_of q; exact ⟨this.1,by omega,this.2.2⟩
  ·split at h
   ·rename_i j q; cases h; have:=fdRow_of q; exact ⟨this.1,by show n < n + 1; omega,this.2⟩
   ·cases h
end
def dI (B L:List AV) (n:Nat):Int:=match fdAll B L n with | some p=>p.1 | none=>0
def dK (B L:List AV) (n:Nat):Int:=match fdAll B L n with | some p=>p.2 | none=>0
section
variable (A : List Int) (B : List Bool) (L : PR) (w : World)
abbrev q16_10:=(OutR pg Try.f60 27 (.agg #[.int .i64 (dI (cB B) (cR L) A.length),.int .i64 (dK (cB B) (cR L) A.length)]) w)
end
def dE (B L:List AV) (n:Nat):Int:=match fdAll B L n with | some _=>0 | none=>5
theorem dK_zero {B L:List AV} {n:Nat}:(dI B L n=0∧dK B L n=0)↔fdAll B L n=none:=by
 unfold dI dK
 cases e:fdAll B L n with
 | none=>simp
 | some p=>have:=fdAll_of e; simp; omega
def fdK1:Code:=bodyC Try.f60
def fdK3:Code:=tlC fdK1
def fdK7:Code:=scpC fdK3
def fdK9:Code:=tlC fdK7
def fdK12:Code:=tlC fdK9
def fdK15:Code:=tlC fdK12
def fdK16:Code:=(hdC fdK12)
def fdK18:Code:=tlC fdK16
def fdK22:Code:=loopC fdK18
def fdK25:Code:=tlC fdK22
def fdK28:Code:=tlC fdK25
def fdK31:Code:=tlC fdK28
def fdK33:Code:=blkB (hdC fdK28)
def fdK35:Code:=tlC fdK33
def fdK38:Code:=tlC fdK35
def fdK42:Code:=loopC fdK38
theorem fd_45 (ya yl yf yw:Value) (A:List Int) (L:PR) (B:List Bool) (W:List Int) (hz:ZK A L B W) (k0:Nat) (h0a:k0≤A.length) (h0b:∀ q,q < k0→∀ r,r < q→¬ dbP (cB B) (cR L) r q) (Q0:(ltI k0 A.length)=true) (j:Nat) (hj1:j≤k0) (hj2:∀ r,r < j→¬ dbP (cB B) (cR L) r k0) (Q1:(ltI j k0)=true) (Q2:(clB (dbP (cB B) (cR L) (((j:Nat):Int)).toNat (((k0:Nat):Int)).toNat))=true) (w:World):Goes pg 27 fdK15 (⟨[(2,(.ptr 1 0)),(3,(.ptr 2 0))],[],4,[q16_11,(2,(.cells [(.v (.int .i64 j)),(.v (.int .i64 k0))] 86))]⟩) w (q16_10 A B L w):=by
 obtain ⟨hcl_A,hcl_L,hcl_B,hcl_W⟩:=hcZ16 A B L W
 obtain ⟨hn,ha,he,hl,hw⟩:=clE_zero hz
 have he2:=he
 unfold eqP degI at he2
 have Q3:=lT Q0
 have Q5:=lT Q1
 have Q4:=clB_true.1 Q2
 simp only [Int.toNat_natCast] at Q4
 exact gL isR_e (gT cm (known_isd) 200 (T':=⟨[(2,(.ptr 1 0))],[],4,[(1,(.cells [(.v (.int .i64 j)),(.v (.int .i64 k0))] 86))]⟩) (e:=.ret) (ps:=[]) [.go,.go] (by kernel_rfl) (by kernel_rfl) trivial rfl) (en_eq (r:=.agg #[(.int .i64 j),(.int .i64 k0)]) (by have e:=fdAll_some (n:=A.length) h0b hj2 Q4 (by omega) (by omega); unfold dI dK; rw [e]) (en_ret (v:=(.agg [(.v (.int .i64 j)),(.v (.int .i64 k0))])) (by kernel_rfl) rfl))
theorem fd_47 (ya yl yf yw:Value) (A:List Int) (L:PR) (B:List Bool) (W:List Int) (hz:ZK A L B W) (k:Nat) (hk1:k≤A.length) (hk2:∀ q,q < k→∀ r,r < q→¬ dbP (cB B) (cR L) r q) (Q0:(ltI k A.length)=true) (j:Nat) (hj1:j≤k) (hj2:∀ r,r < j→¬ dbP (cB B) (cR L) r k) (Q1:(ltI j k)=false) (w:World):Goes pg 27 fdK31 ((q16_4 A B L W k ya yf yl yw)) w (StepC pg 27 0 (fun k:{k:Nat // k≤A.length∧∀ q,q < k→∀ r,r < q→¬ dbP (cB B) (cR L) r q}=>⟨[(1,(.ptr 0 0)),(2,(.ptr 1 0)),(3,(.ptr 2 0)),(q16_14 A),(10,(.v (.int .i64 k.1)))],[],3,[(q16_9 A B L W ya yf yl yw),q16_11,q16_12]⟩) (fun k:{k:Nat // k≤A.length∧∀ q,q < k→∀ r,r < q→¬ dbP (cB B) (cR L) r q}=>A.length - k.1) fdK15 w (q16_10 A B L w) (⟨k,hk1,hk2⟩:{k:Nat // k≤A.length∧∀ q,q < k→∀ r,r < q→¬ dbP (cB B) (cR L) r q})):=by
 obtain ⟨hcl_A,hcl_L,hcl_B,hcl_W⟩:=hcZ16 A B L W
 obtain ⟨hn,ha,he,hl,hw⟩:=clE_zero hz
 have he2:=he
 unfold eqP degI at he2
 have Q3:=lT Q0
 have Q5:=lF Q1
 exact gL isN_e (gT cm (known_isd) 200 (T':=⟨[(1,(.ptr 0 0)),(2,(.ptr 1 0)),(3,(.ptr 2 0)),(q16_14 A),(10,(.v (.int .i64 (((k + 1):Nat):Int))))],[],3,[(q16_9 A B L W ya yf yl yw),q16_11,q16_12]⟩) (e:=.normal) (ps:=[inR .i64 (((k:Nat):Int) + 1)]) [.go,.go] (by kernel_rfl) (by kernel_rfl) ⟨(by show -9223372036854775808≤_∧_≤9223372036854775807; constructor <;> omega),trivial⟩ rfl) (en_on (⟨k + 1,by omega,(fun q hq=>by by_cases e:q < k; exact hk2 q e; (rw [show q=k by omega]; exact fun r hr=>hj2 r (by omega)))⟩) (by show A.length - (k + 1) < A.length - k; omega) rfl)
theorem fd_43 (ya yl yf yw:Value) (A:List Int) (L:PR) (B:List Bool) (W:List Int) (hz:ZK A L B W) (k:Nat) (hk1:k≤A.length) (hk2:∀ q,q < k→∀ r,r < q→¬ dbP (cB B) (cR L) r q) (Q0:(ltI k A.length)=true) (j:Nat) (hj1:j≤k) (hj2:∀ r,r < j→¬ dbP (cB B) (cR L) r k) (w:World):Goes pg 27 fdK42 (⟨[(1,(.ptr 0 0)),(2,(.ptr 1 0)),(3,(.ptr 2 0)),(q16_17 k),(q16_14 A),(q16_15 k),(q16_16 k),(14,(.v (.int .i64 j)))],[],3,[(q16_9 A B L W ya yf yl yw),q16_11,q16_12]⟩) w (StepL 27 2 (fun j:{j:Nat // j≤k∧∀ r,r < j→¬ dbP (cB B) (cR L) r k}=>⟨[(1,(.ptr 0 0)),(2,(.ptr 1 0)),(3,(.ptr 2 0)),(q16_17 k),(q16_14 A),(q16_15 k),(q16_16 k),(14,(.v (.int .i64 j.1)))],[],3,[(q16_9 A B L W ya yf yl yw),q16_11,q16_12]⟩) (fun j:{j:Nat // j≤k∧∀ r,r < j→¬ dbP (cB B) (cR L) r k}=>k - j.1) w (AfterB pg 27 1 fdK31 w (StepC pg 27 0 (fun k:{k:Nat // k≤A.length∧∀ q,q < k→∀ r,r < q→¬ dbP (cB B) (cR L) r q}=>⟨[(1,(.ptr 0 0)),(2,(.ptr 1 0)),(3,(.ptr 2 0)),(q16_14 A),(10,(.v (.int .i64 k.1)))],[],3,[(q16_9 A B L W ya yf yl yw),q16_11,q16_12]⟩) (fun k:{k:Nat // k≤A.length∧∀ q,q < k→∀ r,r < q→¬ dbP (cB B) (cR L) r q}=>A.length - k.1) fdK15 w (q16_10 A B L w) (⟨k,hk1,hk2⟩:{k:Nat // k≤A.length∧∀ q,q < k→∀ r,r < q→¬ dbP (cB B) (cR L) r q}))) (⟨j,hj1,hj2⟩:{j:Nat // j≤k∧∀ r,r < j→¬ dbP (cB B) (cR L) r k})):=by
 obtain ⟨hcl_A,hcl_L,hcl_B,hcl_W⟩:=hcZ16 A B L W
 obtain ⟨hn,ha,he,hl,hw⟩:=clE_zero hz
 have he2:=he
 unfold eqP degI at he2
 have Q3:=lT Q0
 rcases bE (ltI j k) with Q1 | Q1
 ·skip
  have Q5:=lT Q1
  rcases bE (clB (dbP (cB B) (cR L) (((j:Nat):Int)).toNat (((k:Nat):Int)).toNat)) with Q2 | Q2
  ·skip
   have Q4:=clB_true.1 Q2
   simp only [Int.toNat_natCast] at Q4
   exact gL isX_e (gT cm (known_isd) 200 (T':=⟨[(2,(.ptr 1 0)),(3,(.ptr 2 0))],[],4,[q16_11,(2,(.cells [(.v (.int .i64 j)),(.v (.int .i64 k))] 86))]⟩) (e:=.exit 0) (ps:=[ltI j k=true,IsLampK 1 2 1 1 (cI A) A.length (cR L) L.length (cB B) B.length (cI W) W.length,ZK A L B W,(0:Int)≤((j:Nat):Int),((j:Nat):Int) < ((k:Nat):Int),((k:Nat):Int) < ((A.length:Nat):Int),clB (dbP (cB B) (cR L) (((j:Nat):Int)).toNat (((k:Nat):Int)).toNat)=true]) [.go,.b true,.go,.go,.go,.go,.go,.go,.go,.go,.go,.b true,.go,.go] (by kernel_rfl) (by kernel_rfl) ⟨Q1,⟨rfl,rfl,rfl,rfl,A,L,B,W,rfl,rfl,rfl,rfl,rfl,rfl,rfl,rfl⟩,hz,(by omega),(by omega),(by omega),Q2,trivial⟩ rfl) (en_to (by intro h; cases h) (by intro h; cases h) (en_bo (by intro h; cases h) (by intro h; cases h) (en_sx (fd_45 ya yl yf yw A L B W hz k hk1 hk2 Q0 j hj1 hj2 Q1 Q2 w))))
  ·skip
   have Q4:=clB_false Q2
   simp only [Int.toNat_natCast] at Q4
   exact gL isN_e (gK cm (known_isd) 200 (T':=⟨[(1,(.ptr 0 0)),(2,(.ptr 1 0)),(3,(.ptr 2 0)),(q16_17 k),(q16_14 A),(q16_15 k),(q16_16 k),(14,(.v (.int .i64 (((j + 1):Nat):Int))))],[],3,[(q16_9 A B L W ya yf yl yw),q16_11,q16_12]⟩) (e:=.normal) (m:=4) (ps:=[ltI j k=true,IsLampK 1 2 1 1 (cI A) A.length (cR L) L.length (cB B) B.length (cI W) W.length,ZK A L B W,(0:Int)≤((j:Nat):Int),((j:Nat):Int) < ((k:Nat):Int),((k:Nat):Int) < ((A.length:Nat):Int),clB (dbP (cB B) (cR L) (((j:Nat):Int)).toNat (((k:Nat):Int)).toNat)=false,inR .i64 (((j:Nat):Int) + 1)]) [.go,.b true,.go,.go,.go,.go,.go,.go,.go,.go,.go,.b false,.go,.go] (by kernel_rfl) (by kernel_rfl) ⟨Q1,⟨rfl,rfl,rfl,rfl,A,L,B,W,rfl,rfl,rfl,rfl,rfl,rfl,rfl,rfl⟩,hz,(by omega),(by omega),(by omega),Q2,(by show -9223372036854775808≤_∧_≤9223372036854775807; constructor <;> omega),trivial⟩ rfl (by show 3≤4; decide) ⟨⟨nb_ptr (by show 0 < 3; decide),nb_ptr (by show 1 < 3; decide),nb_ptr (by show 2 < 3; decide),nb_v _,nb_v _,nb_v _,nb_v _,nb_v _,trivial⟩,⟨⟨by show 0 < 3; decide,nbb_cells (nb_cons (nb_xl (cI_plain A)) (nb_cons (nb_xl (cR_plain L)) (nb_cons (nb_xl (cB_plain B)) (nb_cons (nb_xl (cI_plain W)) (fun _ hz=>absurd hz List.not_mem_nil)))))⟩,⟨by show 1 < 3; decide,nbb_cells (nb_cons (nb_v _) (nb_cons (nb_v _) (fun _ hz=>absurd hz List.not_mem_nil)))⟩,⟨by show 2 < 3; decide,nbb_cells (nb_cons (nb_v _) (nb_cons (nb_v _) (fun _ hz=>absurd hz List.not_mem_nil)))⟩,trivial⟩,rfl⟩) (en_tn (⟨j + 1,by omega,(fun q hq=>by by_cases e:q < j; exact hj2 q e; (rw [show q=j by omega]; exact Q4))⟩) (by show k - (j + 1) < k - j; omega) rfl)
 ·skip
  have Q5:=lF Q1
  exact gL isX_e (gT cm (known_isd) 200 (T':=(q16_4 A B L W k ya yf yl yw)) (e:=.exit 2) (ps:=[ltI j k=false]) [.go,.b false] (by kernel_rfl) (by kernel_rfl) ⟨Q1,trivial⟩ rfl) (en_tx (en_bn (fd_47 ya yl yf yw A L B W hz k hk1 hk2 Q0 j hj1 hj2 Q1 w)))
theorem fd_41 (ya yl yf yw:Value) (A:List Int) (L:PR) (B:List Bool) (W:List Int) (hz:ZK A L B W) (k:Nat) (hk1:k≤A.length) (hk2:∀ q,q < k→∀ r,r < q→¬ dbP (cB B) (cR L) r q) (Q0:(ltI k A.length)=true) (w:World):Goes pg 27 fdK38 ((q16_1 A B L W k ya yf yl yw)) w (AfterB pg 27 1 fdK31 w (StepC pg 27 0 (fun k:{k:Nat // k≤A.length∧∀ q,q < k→∀ r,r < q→¬ dbP (cB B) (cR L) r q}=>⟨[(1,(.ptr 0 0)),(2,(.ptr 1 0)),(3,(.ptr 2 0)),(q16_14 A),(10,(.v (.int .i64 k.1)))],[],3,[(q16_9 A B L W ya yf yl yw),q16_11,q16_12]⟩) (fun k:{k:Nat // k≤A.length∧∀ q,q < k→∀ r,r < q→¬ dbP (cB B) (cR L) r q}=>A.length - k.1) fdK15 w (q16_10 A B L w) (⟨k,hk1,hk2⟩:{k:Nat // k≤A.length∧∀ q,q < k→∀ r,r < q→¬ dbP (cB B) (cR L) r q}))):=by
 obtain ⟨hcl_A,hcl_L,hcl_B,hcl_W⟩:=hcZ16 A B L W
 obtain ⟨hn,ha,he,hl,hw⟩:=clE_zero hz
 have he2:=he
 unfold eqP degI at he2
 have Q3:=lT Q0
 exact goes_loopL (id:=2) (by kernel_rfl) (by kernel_rfl) (fun j:{j:Nat // j≤k∧∀ r,r < j→¬ dbP (cB B) (cR L) r k}=>⟨[(1,(.ptr 0 0)),(2,(.ptr 1 0)),(3,(.ptr 2 0)),(q16_17 k),(q16_14 A),(q16_15 k),(q16_16 k),(14,(.v (.int .i64 j.1)))],[],3,[(q16_9 A B L W ya yf yl yw),q16_11,q16_12]⟩) (fun j:{j:Nat // j≤k∧∀ r,r < j→¬ dbP (cB B) (cR L) r k}=>k - j.1) (fun i=>fd_43 ya yl yf yw A L B W hz k hk1 hk2 Q0 i.1 i.2.1 i.2.2 w) ⟨0,Nat.zero_le _,(fun q hq=>by omega)⟩
theorem fd_40 (ya yl yf yw:Value) (A:List Int) (L:PR) (B:List Bool) (W:List Int) (hz:ZK A L B W) (k:Nat) (hk1:k≤A.length) (hk2:∀ q,q < k→∀ r,r < q→¬ dbP (cB B) (cR L) r q) (Q0:(ltI k A.length)=true) (w:World):Goes pg 27 fdK38 ((q16_1 A B L W k ya yf yl yw)) w (AfterB pg 27 1 fdK31 w (StepC pg 27 0 (fun k:{k:Nat // k≤A.length∧∀ q,q < k→∀ r,r < q→¬ dbP (cB B) (cR L) r q}=>⟨[(1,(.ptr 0 0)),(2,(.ptr 1 0)),(3,(.ptr 2 0)),(q16_14 A),(10,(.v (.int .i64 k.1)))],[],3,[(q16_9 A B L W ya yf yl yw),q16_11,q16_12]⟩) (fun k:{k:Nat // k≤A.length∧∀ q,q < k→∀ r,r < q→¬ dbP (cB B) (cR L) r q}=>A.length - k.1) fdK15 w (q16_10 A B L w) (⟨k,hk1,hk2⟩:{k:Nat // k≤A.length∧∀ q,q < k→∀ r,r < q→¬ dbP (cB B) (cR L) r q}))):=by
 exact fd_41 ya yl yf yw A L B W hz k hk1 hk2 Q0 w
theorem fd_37 (ya yl yf yw:Value) (A:List Int) (L:PR) (B:List Bool) (W:List Int) (hz:ZK A L B W) (k:Nat) (hk1:k≤A.length) (hk2:∀ q,q < k→∀ r,r < q→¬ dbP (cB B) (cR L) r q) (Q0:(ltI k A.length)=true) (w:World):Goes pg 27 fdK35 ((q16_3 A B L W k ya yf yl yw)) w (AfterB pg 27 1 fdK31 w (StepC pg 27 0 (fun k:{k:Nat // k≤A.length∧∀ q,q < k→∀ r,r < q→¬ dbP (cB B) (cR L) r q}=>⟨[(1,(.ptr 0 0)),(2,(.ptr 1 0)),(3,(.ptr 2 0)),(q16_14 A),(10,(.v (.int .i64 k.1)))],[],3,[(q16_9 A B L W ya yf yl yw),q16_11,q16_12]⟩) (fun k:{k:Nat // k≤A.length∧∀ q,q < k→∀ r,r < q→¬ dbP (cB B) (cR L) r q}=>A.length - k.1) fdK15 w (q16_10 A B L w) (⟨k,hk1,hk2⟩:{k:Nat // k≤A.length∧∀ q,q < k→∀ r,r < q→¬ dbP (cB B) (cR L) r q}))):=by
 obtain ⟨hcl_A,hcl_L,hcl_B,hcl_W⟩:=hcZ16 A B L W
 obtain ⟨hn,ha,he,hl,hw⟩:=clE_zero hz
 have he2:=he
 unfold eqP degI at he2
 have Q3:=lT Q0
 refine goes_seqA (by kernel_rfl) ?_
 exact gL isN_e (gT cm (known_isd) 200 (T':=(q16_1 A B L W k ya yf yl yw)) (e:=.normal) (ps:=[]) [.go,.go] (by kernel_rfl) (by kernel_rfl) trivial rfl) (en_n (fd_40 ya yl yf yw A L B W hz k hk1 hk2 Q0 w))
theorem fd_34 (ya yl yf yw:Value) (A:List Int) (L:PR) (B:List Bool) (W:List Int) (hz:ZK A L B W) (k:Nat) (hk1:k≤A.length) (hk2:∀ q,q < k→∀ r,r < q→¬ dbP (cB B) (cR L) r q) (Q0:(ltI k A.length)=true) (w:World):Goes pg 27 fdK33 ((q16_4 A B L W k ya yf yl yw)) w (AfterB pg 27 1 fdK31 w (StepC pg 27 0 (fun k:{k:Nat // k≤A.length∧∀ q,q < k→∀ r,r < q→¬ dbP (cB B) (cR L) r q}=>⟨[(1,(.ptr 0 0)),(2,(.ptr 1 0)),(3,(.ptr 2 0)),(q16_14 A),(10,(.v (.int .i64 k.1)))],[],3,[(q16_9 A B L W ya yf yl yw),q16_11,q16_12]⟩) (fun k:{k:Nat // k≤A.length∧∀ q,q < k→∀ r,r < q→¬ dbP (cB B) (cR L) r q}=>A.length - k.1) fdK15 w (q16_10 A B L w) (⟨k,hk1,hk2⟩:{k:Nat // k≤A.length∧∀ q,q < k→∀ r,r < q→¬ dbP (cB B) (cR L) r q}))):=by
 obtain ⟨hcl_A,hcl_L,hcl_B,hcl_W⟩:=hcZ16 A B L W
 obtain ⟨hn,ha,he,hl,hw⟩:=clE_zero hz
 have he2:=he
 unfold eqP degI at he2
 have Q3:=lT Q0
 refine goes_seqA (by kernel_rfl) ?_
 exact gL isN_e (gT cm (known_isd) 200 (T':=(q16_3 A B L W k ya yf yl yw)) (e:=.normal) (ps:=[]) [.go,.go] (by kernel_rfl) (by kernel_rfl) trivial rfl) (en_n (fd_37 ya yl yf yw A L B W hz k hk1 hk2 Q0 w))
theorem fd_32 (ya yl yf yw:Value) (A:List Int) (L:PR) (B:List Bool) (W:List Int) (hz:ZK A L B W) (k:Nat) (hk1:k≤A.length) (hk2:∀ q,q < k→∀ r,r < q→¬ dbP (cB B) (cR L) r q) (Q0:(ltI k A.length)=true) (w:World):Goes pg 27 (hdC fdK28) ((q16_4 A B L W k ya yf yl yw)) w (AfterN pg 27 fdK31 w (StepC pg 27 0 (fun k:{k:Nat // k≤A.length∧∀ q,q < k→∀ r,r < q→¬ dbP (cB B) (cR L) r q}=>⟨[(1,(.ptr 0 0)),(2,(.ptr 1 0)),(3,(.ptr 2 0)),(q16_14 A),(10,(.v (.int .i64 k.1)))],[],3,[(q16_9 A B L W ya yf yl yw),q16_11,q16_12]⟩) (fun k:{k:Nat // k≤A.length∧∀ q,q < k→∀ r,r < q→¬ dbP (cB B) (cR L) r q}=>A.length - k.1) fdK15 w (q16_10 A B L w) (⟨k,hk1,hk2⟩:{k:Nat // k≤A.length∧∀ q,q < k→∀ r,r < q→¬ dbP (cB B) (cR L) r q}))):=by
 exact goes_blkA (id:=1) (by kernel_rfl) (by kernel_rfl) (fd_34 ya yl yf yw A L B W hz k hk1 hk2 Q0 w)
theorem fd_30 (ya yl yf yw:Value) (A:List Int) (L:PR) (B:List Bool) (W:List Int) (hz:ZK A L B W) (k:Nat) (hk1:k≤A.length) (hk2:∀ q,q < k→∀ r,r < q→¬ dbP (cB B) (cR L) r q) (Q0:(ltI k A.length)=true) (w:World):Goes pg 27 fdK28 ((q16_4 A B L W k ya yf yl yw)) w (StepC pg 27 0 (fun k:{k:Nat // k≤A.length∧∀ q,q < k→∀ r,r < q→¬ dbP (cB B) (cR L) r q}=>⟨[(1,(.ptr 0 0)),(2,(.ptr 1 0)),(3,(.ptr 2 0)),(q16_14 A),(10,(.v (.int .i64 k.1)))],[],3,[(q16_9 A B L W ya yf yl yw),q16_11,q16_12]⟩) (fun k:{k:Nat // k≤A.length∧∀ q,q < k→∀ r,r < q→¬ dbP (cB B) (cR L) r q}=>A.length - k.1) fdK15 w (q16_10 A B L w) (⟨k,hk1,hk2⟩:{k:Nat // k≤A.length∧∀ q,q < k→∀ r,r < q→¬ dbP (cB B) (cR L) r q})):=by
 exact goes_seqA (by kernel_rfl) (fd_32 ya yl yf yw A L B W hz k hk1 hk2 Q0 w)
theorem fd_49 (ya yl yf yw:Value) (A:List Int) (L:PR) (B:List Bool) (W:List Int) (hz:ZK A L B W) (k0:Nat) (h0a:k0≤A.length) (h0b:∀ q,q < k0→∀ r,r < q→¬ dbP (cB B) (cR L) r q) (Q0:(ltI k0 A.length)=false) (w:World):Goes pg 27 fdK15 (q16_8) w (q16_10 A B L w):=by
 obtain ⟨hcl_A,hcl_L,hcl_B,hcl_W⟩:=hcZ16 A B L W
 obtain ⟨hn,ha,he,hl,hw⟩:=clE_zero hz
 have he2:=he
 unfold eqP degI at he2
 have Q3:=lF Q0
 exact gL isR_e (gT cm (known_isd) 200 (T':=⟨[(2,(.ptr 1 0))],[],3,[q16_11]⟩) (e:=.ret) (ps:=[]) [.go,.go] (by kernel_rfl) (by kernel_rfl) trivial rfl) (en_eq (r:=.agg #[(.int .i64 0),(.int .i64 0)]) (by have e:=fdAll_none (n:=A.length) (B:=cB B) (L:=cR L) (fun q hq=>h0b q (by omega)); unfold dI dK; rw [e]) (en_ret (v:=(.agg [(.v (.int .i64 (.ofNat 0))),(.v (.int .i64 (.ofNat 0)))])) (by kernel_rfl) rfl))
theorem fd_27 (ya yl yf yw:Value) (A:List Int) (L:PR) (B:List Bool) (W:List Int) (hz:ZK A L B W) (k:Nat) (hk1:k≤A.length) (hk2:∀ q,q < k→∀ r,r < q→¬ dbP (cB B) (cR L) r q) (w:World):Goes pg 27 fdK25 ((q16_2 A B L W k ya yf yl yw)) w (StepC pg 27 0 (fun k:{k:Nat // k≤A.length∧∀ q,q < k→∀ r,r < q→¬ dbP (cB B) (cR L) r q}=>⟨[(1,(.ptr 0 0)),(2,(.ptr 1 0)),(3,(.ptr 2 0)),(q16_14 A),(10,(.v (.int .i64 k.1)))],[],3,[(q16_9 A B L W ya yf yl yw),q16_11,q16_12]⟩) (fun k:{k:Nat // k≤A.length∧∀ q,q < k→∀ r,r < q→¬ dbP (cB B) (cR L) r q}=>A.length - k.1) fdK15 w (q16_10 A B L w) (⟨k,hk1,hk2⟩:{k:Nat // k≤A.length∧∀ q,q < k→∀ r,r < q→¬ dbP (cB B) (cR L) r q})):=by
 obtain ⟨hcl_A,hcl_L,hcl_B,hcl_W⟩:=hcZ16 A B L W
 obtain ⟨hn,ha,he,hl,hw⟩:=clE_zero hz
 have he2:=he
 unfold eqP degI at he2
 refine goes_seqA (by kernel_rfl) ?_
 rcases bE (ltI k A.length) with Q0 | Q0
 ·skip
  have Q3:=lT Q0
  exact gL isN_e (gT cm (known_isd) 200 (T':=(q16_4 A B L W k ya yf yl yw)) (e:=.normal) (ps:=[ltI k A.length=true]) [.b true] (by kernel_rfl) (by kernel_rfl) ⟨Q0,trivial⟩ rfl) (en_n (fd_30 ya yl yf yw A L B W hz k hk1 hk2 Q0 w))
 ·skip
  have Q3:=lF Q0
  exact gL isX_e (gT cm (known_isd) 200 (T':=q16_8) (e:=.exit 0) (ps:=[ltI k A.length=false]) [.b false] (by kernel_rfl) (by kernel_rfl) ⟨Q0,trivial⟩ rfl) (en_o (by intro h; cases h) (en_sx (fd_49 ya yl yf yw A L B W hz k hk1 hk2  Q0 w)))
theorem fd_24 (ya yl yf yw:Value) (A:List Int) (L:PR) (B:List Bool) (W:List Int) (hz:ZK A L B W) (k:Nat) (hk1:k≤A.length) (hk2:∀ q,q < k→∀ r,r < q→¬ dbP (cB B) (cR L) r q) (w:World):Goes pg 27 fdK22 (⟨[(1,(.ptr 0 0)),(2,(.ptr 1 0)),(3,(.ptr 2 0)),(q16_14 A),(10,(.v (.int .i64 k)))],[],3,[(q16_9 A B L W ya yf yl yw),q16_11,q16_12]⟩) w (StepC pg 27 0 (fun k:{k:Nat // k≤A.length∧∀ q,q < k→∀ r,r < q→¬ dbP (cB B) (cR L) r q}=>⟨[(1,(.ptr 0 0)),(2,(.ptr 1 0)),(3,(.ptr 2 0)),(q16_14 A),(10,(.v (.int .i64 k.1)))],[],3,[(q16_9 A B L W ya yf yl yw),q16_11,q16_12]⟩) (fun k:{k:Nat // k≤A.length∧∀ q,q < k→∀ r,r < q→¬ dbP (cB B) (cR L) r q}=>A.length - k.1) fdK15 w (q16_10 A B L w) (⟨k,hk1,hk2⟩:{k:Nat // k≤A.length∧∀ q,q < k→∀ r,r < q→¬ dbP (cB B) (cR L) r q})):=by
 obtain ⟨hcl_A,hcl_L,hcl_B,hcl_W⟩:=hcZ16 A B L W
 obtain ⟨hn,ha,he,hl,hw⟩:=clE_zero hz
 have he2:=he
 unfold eqP degI at he2
 refine goes_seqA (by kernel_rfl) ?_
 exact gL isN_e (gT cm (known_isd) 200 (T':=(q16_2 A B L W k ya yf yl yw)) (e:=.normal) (ps:=[]) [.go] (by kernel_rfl) (by kernel_rfl) trivial rfl) (en_n (fd_27 ya yl yf yw A L B W hz k hk1 hk2 w))
theorem fd_21 (ya yl yf yw:Value) (A:List Int) (L:PR) (B:List Bool) (W:List Int) (hz:ZK A L B W) (w:World):Goes pg 27 fdK18 ((q16_5 A B L W ya yf yl yw)) w (AfterN pg 27 fdK15 w (q16_10 A B L w)):=by
 obtain ⟨hcl_A,hcl_L,hcl_B,hcl_W⟩:=hcZ16 A B L W
 obtain ⟨hn,ha,he,hl,hw⟩:=clE_zero hz
 have he2:=he
 unfold eqP degI at he2
 exact goes_loopA (id:=0) (by kernel_rfl) (by kernel_rfl) (fun k:{k:Nat // k≤A.length∧∀ q,q < k→∀ r,r < q→¬ dbP (cB B) (cR L) r q}=>⟨[(1,(.ptr 0 0)),(2,(.ptr 1 0)),(3,(.ptr 2 0)),(q16_14 A),(10,(.v (.int .i64 k.1)))],[],3,[(q16_9 A B L W ya yf yl yw),q16_11,q16_12]⟩) (fun k:{k:Nat // k≤A.length∧∀ q,q < k→∀ r,r < q→¬ dbP (cB B) (cR L) r q}=>A.length - k.1) (fun i=>fd_24 ya yl yf yw A L B W hz i.1 i.2.1 i.2.2 w) ⟨0,Nat.zero_le _,(fun k hk=>by omega)⟩
theorem fd_20 (ya yl yf yw:Value) (A:List Int) (L:PR) (B:List Bool) (W:List Int) (hz:ZK A L B W) (w:World):Goes pg 27 fdK18 ((q16_5 A B L W ya yf yl yw)) w (AfterN pg 27 fdK15 w (q16_10 A B L w)):=by
 exact fd_21 ya yl yf yw A L B W hz w
theorem fd_17 (ya yl yf yw:Value) (A:List Int) (L:PR) (B:List Bool) (W:List Int) (hz:ZK A L B W) (w:World):Goes pg 27 fdK16 ((q16_6 A B L W ya yf yl yw)) w (AfterN pg 27 fdK15 w (q16_10 A B L w)):=by
 obtain ⟨hcl_A,hcl_L,hcl_B,hcl_W⟩:=hcZ16 A B L W
 obtain ⟨hn,ha,he,hl,hw⟩:=clE_zero hz
 have he2:=he
 unfold eqP degI at he2
 refine goes_seqA (by kernel_rfl) ?_
 exact gL isN_e (gT cm (known_isd) 200 (T':=(q16_5 A B L W ya yf yl yw)) (e:=.normal) (ps:=[]) [.go,.go,.go,.go] (by kernel_rfl) (by kernel_rfl) trivial rfl) (en_n (fd_20 ya yl yf yw A L B W hz w))
theorem fd_14 (ya yl yf yw:Value) (A:List Int) (L:PR) (B:List Bool) (W:List Int) (hz:ZK A L B W) (w:World):Goes pg 27 fdK12 ((q16_6 A B L W ya yf yl yw)) w (q16_10 A B L w):=by
 exact goes_seqA (by kernel_rfl) (fd_17 ya yl yf yw A L B W hz w)
theorem fd_11 (ya yl yf yw:Value) (A:List Int) (L:PR) (B:List Bool) (W:List Int) (hz:ZK A L B W) (w:World):Goes pg 27 fdK9 ((q16_6 A B L W ya yf yl yw)) w (q16_10 A B L w):=by
 obtain ⟨hcl_A,hcl_L,hcl_B,hcl_W⟩:=hcZ16 A B L W
 obtain ⟨hn,ha,he,hl,hw⟩:=clE_zero hz
 have he2:=he
 unfold eqP degI at he2
 refine goes_seqA (by kernel_rfl) ?_
 exact gL isN_e (gT cm (known_isd) 200 (T':=(q16_6 A B L W ya yf yl yw)) (e:=.normal) (ps:=[]) [] (by kernel_rfl) (by kernel_rfl) trivial rfl) (en_n (fd_14 ya yl yf yw A L B W hz w))
theorem fd_8 (ya yl yf yw:Value) (A:List Int) (L:PR) (B:List Bool) (W:List Int) (hz:ZK A L B W) (w:World):Goes pg 27 fdK7 ((q16_7 A B L W ya yf yl yw)) w (q16_10 A B L w):=by
 obtain ⟨hcl_A,hcl_L,hcl_B,hcl_W⟩:=hcZ16 A B L W
 obtain ⟨hn,ha,he,hl,hw⟩:=clE_zero hz
 have he2:=he
 unfold eqP degI at he2
 refine goes_seqA (by kernel_rfl) ?_
 exact gL isN_e (gT cm (known_isd) 200 (T':=(q16_6 A B L W ya yf yl yw)) (e:=.normal) (ps:=[]) [.go] (by kernel_rfl) (by kernel_rfl) trivial rfl) (en_n (fd_11 ya yl yf yw A L B W hz w))
theorem fd_6 (ya yl yf yw:Value) (A:List Int) (L:PR) (B:List Bool) (W:List Int) (hz:ZK A L B W) (w:World):Goes pg 27 fdK3 ((q16_7 A B L W ya yf yl yw)) w (q16_10 A B L w):=by
 exact goes_scpL (by kernel_rfl) (fd_8 ya yl yf yw A L B W hz w) nogoto_out
theorem fd_5 (ya yl yf yw:Value) (A:List Int) (L:PR) (B:List Bool) (W:List Int) (hz:ZK A L B W) (w:World):Goes pg 27 fdK3 ((q16_7 A B L W ya yf yl yw)) w (q16_10 A B L w):=by
 exact fd_6 ya yl yf yw A L B W hz w
theorem fd_2 (ya yl yf yw:Value) (A:List Int) (L:PR) (B:List Bool) (W:List Int) (hz:ZK A L B W) (w:World):Goes pg 27 fdK1 (⟨[(0,.agg [.xl ya A.length 1 (cI A),.xl yl L.length 2 (cR L),.xl yf B.length 1 (cB B),.xl yw W.length 1 (cI W)])],[],0,[]⟩) w (q16_10 A B L w):=by
 obtain ⟨hcl_A,hcl_L,hcl_B,hcl_W⟩:=hcZ16 A B L W
 obtain ⟨hn,ha,he,hl,hw⟩:=clE_zero hz
 have he2:=he
 unfold eqP degI at he2
 refine goes_seqA (by kernel_rfl) ?_
 exact gL isN_e (gT cm (known_isd) 200 (T':=(q16_7 A B L W ya yf yl yw)) (e:=.normal) (ps:=[]) [.go,.go] (by kernel_rfl) (by kernel_rfl) trivial rfl) (en_n (fd_5 ya yl yf yw A L B W hz w))
theorem fd_g (ya yl yf yw:Value) (A:List Int) (L:PR) (B:List Bool) (W:List Int) (hz:ZK A L B W):GivesA pg 60 [.agg [.xl ya A.length 1 (cI A),.xl yl L.length 2 (cR L),.xl yf B.length 1 (cB B),.xl yw W.length 1 (cI W)]] (.agg #[.int .i64 (dI (cB B) (cR L) A.length),.int .i64 (dK (cB B) (cR L) A.length)]) :=
 givesA_parts 27 Try.func60 (by kernel_rfl) (by kernel_rfl) (by kernel_rfl) (fun w=>goes_less (by kernel_rfl) (by kernel_rfl) (by kernel_rfl) (by kernel_rfl) (fd_2 ya yl yf yw A L B W hz w))
end
end Go.Proofs.Ytldekgkjofgacaa
