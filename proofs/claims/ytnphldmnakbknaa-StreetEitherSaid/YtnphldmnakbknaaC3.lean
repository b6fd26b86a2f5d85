import Derived.Test.YtnphldmnakbknaaT3
set_option maxHeartbeats 4000000
set_option linter.all false
/- Costs (mathematics). -/
namespace Go.Proofs.Ytnphldmnakbknaa
open Go Ev
noncomputable section
def coI (c xs:List AV) (k:Nat):Int:=intAt c ((intAt xs (0 + k * 1)).toNat * 3 + 2)
def suC (c xs:List AV):Nat→Int
 | 0=>0
 | k + 1=>suC c xs k + coI c xs k
def suF (l:List AV):Nat→Int
 | 0=>0
 | k + 1=>suF l k + intAt l (k * 1)
theorem suF_bd {l:List AV}:∀ {k:Nat},(∀ i,i < k→0≤intAt l (i * 1)∧intAt l (i * 1)≤1000000)→0≤suF l k∧suF l k≤k * 1000000
 | 0,_=>by simp [suF]
 | k + 1,h=>by
  have h1:=suF_bd (l:=l) (k:=k) (fun i hi=>h i (by omega))
  have h2:=h k (by omega)
  simp only [suF]
  omega
theorem suF_C {c xs:List AV}:∀ {k n:Nat},k≤n→suF (cI (tabL (coI c xs) n)) k=suC c xs k
 | 0,_,_=>rfl
 | k + 1,n,h=>by
  rw [suF,suC,suF_C (show k≤n by omega),Nat.mul_one,tab_int0 _ (show k < n by omega)]
theorem tab_row {f:Nat→Int} {k:Nat}:cI (tabL f (k + 1))=cI (tabL f k) ++ [.v (.int .i64 (f k))]:=by rw [tabL,← cI_app]; rfl
theorem takeT {f:Nat→Int} {k m:Nat} (h:m=k):List.take (m * 1) (List.drop 0 (cI (tabL f k)))=cI (tabL f k):=by
 rw [List.drop_zero,List.take_of_length_le (by rw [cI_len,tabL_len]; omega)]
def suK1:Code:=bodyC Try.f64
def suK3:Code:=tlC suK1
def suK6:Code:=tlC suK3
def suK9:Code:=tlC suK6
def suK10:Code:=(hdC suK6)
def suK12:Code:=tlC suK10
def suK16:Code:=loopC suK12
theorem su_19 (z:Value) (L:List Int) (hL:L.length≤1000) (hb:∀ i,i < L.length→0≤intAt (cI L) (i * 1)∧intAt (cI L) (i * 1)≤1000000) (h0b:True) (hqsu18_1:(ltI L.length L.length)=false) (w:World) (hs:LN):Goes pg 17 suK9 (⟨[(3,(.v (.int .i64 (suF (cI L) (L.length)))))],[],0,[]⟩) (BaseW.H w hs) (OutH pg Try.f64 17 (.int .i64 (suF (cI L) L.length)) w):=by
 have hcl_L:=cI_len L
 have ghqsu18_1:=lF hqsu18_1
 exact gL isR_e (gT cm (kN) 200 (T':=⟨[(2,(.v (.int .i64 (suF (cI L) L.length))))],[],0,[]⟩) (e:=.ret) (ps:=[]) [.go,.go] (by kernel_rfl) (by kernel_rfl) trivial rfl) (Hd.en_eq (r:=(.int .i64 (suF (cI L) L.length))) (by rfl) (Hd.en_ret (v:=(.v (.int .i64 (suF (cI L) L.length)))) (by kernel_rfl) rfl))
theorem su_17 (z:Value) (L:List Int) (hL:L.length≤1000) (hb:∀ i,i < L.length→0≤intAt (cI L) (i * 1)∧intAt (cI L) (i * 1)≤1000000) (i:Nat) (hi1:i≤L.length) (hi2:True) (w:World) (hs:LN):Goes pg 17 suK16 (⟨[(3,(.v (.int .i64 (suF (cI L) i)))),(6,(.xl (z) (L.length) 1 (cI L))),(7,(.v (.int .i64 L.length))),(8,(.v (.int .i64 i)))],[],0,[]⟩) (BaseW.H w hs) (Hd.StepC pg 17 0 (fun i:{i:Nat // i≤L.length∧True}=>⟨[(3,(.v (.int .i64 (suF (cI L) i.1)))),(6,(.xl (z) (L.length) 1 (cI L))),(7,(.v (.int .i64 L.length))),(8,(.v (.int .i64 i.1)))],[],0,[]⟩) (fun i:{i:Nat // i≤L.length∧True}=>L.length - i.1) suK9 w (OutH pg Try.f64 17 (.int .i64 (suF (cI L) L.length)) w) (⟨i,hi1,hi2⟩:{i:Nat // i≤L.length∧True})):=by
 have hcl_L:=cI_len L
 rcases bE (ltI i L.length) with hqsu18_1 | hqsu18_1
 ·skip
  have ghqsu18_1:=lT hqsu18_1
  have hs1:=suF_bd (l:=cI L) (k:=i) (fun k hk=>hb k (by omega))
  have hs2:=hb i (by omega)
  exact gL isN_e (gT cm (kN) 200 (T':=⟨[(3,(.v (.int .i64 (suF (cI L) (i + 1))))),(6,(.xl (z) (L.length) 1 (cI L))),(7,(.v (.int .i64 L.length))),(8,(.v (.int .i64 (((i + 1):Nat):Int))))],[],0,[]⟩) (e:=.normal) (ps:=[ltI i L.length=true,i < L.length,loadL pg (cI L) (i * 1) 2=some (.v (.int .i64 (intAt (cI L) (i * 1)))),inR .i64 (suF (cI L) i + intAt (cI L) (i * 1)),inR .i64 (((i:Nat):Int) + 1)]) [.go,.b true,.sym,.sym,.go,.go,.go,.go,.go,.go,.go] (by kernel_rfl) (by kernel_rfl) ⟨hqsu18_1,(by omega),(by rw [Nat.mul_one]; exact cI_load (by omega) 2 (Try.underlying2) rfl),(by show -9223372036854775808≤_∧_≤9223372036854775807; constructor <;> omega),(by show -9223372036854775808≤_∧_≤9223372036854775807; constructor <;> omega),trivial⟩ rfl) (eO (⟨i + 1,by omega,trivial⟩) (by show L.length - (i + 1) < L.length - i; omega) rfl)
 ·skip
  have ghqsu18_1:=lF hqsu18_1
  obtain rfl:i=L.length:=by omega
  exact gL isX_e (gT cm (kN) 200 (T':=⟨[(3,(.v (.int .i64 (suF (cI L) (L.length)))))],[],0,[]⟩) (e:=.exit 0) (ps:=[ltI L.length L.length=false]) [.go,.b false] (by kernel_rfl) (by kernel_rfl) ⟨hqsu18_1,trivial⟩ rfl) (Hd.en_sx (su_19 z L hL hb hi2  hqsu18_1 w hs))
theorem su_15 (z:Value) (L:List Int) (hL:L.length≤1000) (hb:∀ i,i < L.length→0≤intAt (cI L) (i * 1)∧intAt (cI L) (i * 1)≤1000000) (w:World) (hs:LN):Goes pg 17 suK12 (⟨[(3,(.v (.int .i64 (.ofNat 0)))),(6,(.xl (z) (L.length) 1 (cI L))),(7,(.v (.int .i64 L.length))),(8,(.v (.int .i64 (.ofNat 0))))],[],0,[]⟩) (BaseW.H w hs) (Hd.AfterN pg 17 suK9 w (OutH pg Try.f64 17 (.int .i64 (suF (cI L) L.length)) w)):=by
 have hcl_L:=cI_len L
 rw [show (⟨[(3,(.v (.int .i64 (.ofNat 0)))),(6,(.xl (z) (L.length) 1 (cI L))),(7,(.v (.int .i64 L.length))),(8,(.v (.int .i64 (.ofNat 0))))],[],0,[]⟩:Ev.Lit)=⟨[(3,(.v (.int .i64 (suF (cI L) 0)))),(6,(.xl (z) (L.length) 1 (cI L))),(7,(.v (.int .i64 L.length))),(8,(.v (.int .i64 0)))],[],0,[]⟩ from by rfl]
 exact Hd.goes_loopA (id:=0) (by kernel_rfl) (by kernel_rfl) (fun i:{i:Nat // i≤L.length∧True}=>⟨[(3,(.v (.int .i64 (suF (cI L) i.1)))),(6,(.xl (z) (L.length) 1 (cI L))),(7,(.v (.int .i64 L.length))),(8,(.v (.int .i64 i.1)))],[],0,[]⟩) (fun i:{i:Nat // i≤L.length∧True}=>L.length - i.1) (fun ix_ hs=>su_17 z L hL hb ix_.1 ix_.2.1 ix_.2.2 w hs) ⟨0,Nat.zero_le _,trivial⟩ hs
theorem su_14 (z:Value) (L:List Int) (hL:L.length≤1000) (hb:∀ i,i < L.length→0≤intAt (cI L) (i * 1)∧intAt (cI L) (i * 1)≤1000000) (w:World) (hs:LN):Goes pg 17 suK12 (⟨[(3,(.v (.int .i64 (.ofNat 0)))),(6,(.xl (z) (L.length) 1 (cI L))),(7,(.v (.int .i64 L.length))),(8,(.v (.int .i64 (.ofNat 0))))],[],0,[]⟩) (BaseW.H w hs) (Hd.AfterN pg 17 suK9 w (OutH pg Try.f64 17 (.int .i64 (suF (cI L) L.length)) w)):=by
 exact su_15 z L hL hb w hs
theorem su_11 (z:Value) (L:List Int) (hL:L.length≤1000) (hb:∀ i,i < L.length→0≤intAt (cI L) (i * 1)∧intAt (cI L) (i * 1)≤1000000) (w:World) (hs:LN):Goes pg 17 suK10 (⟨[(0,(.xl (z) (L.length) 1 (cI L))),(3,(.v (.int .i64 (.ofNat 0))))],[],0,[]⟩) (BaseW.H w hs) (Hd.AfterN pg 17 suK9 w (OutH pg Try.f64 17 (.int .i64 (suF (cI L) L.length)) w)):=by
 have hcl_L:=cI_len L
 refine gS (by kernel_rfl) ?_
 exact gL isN_e (gT cm (kN) 200 (T':=⟨[(3,(.v (.int .i64 (.ofNat 0)))),(6,(.xl (z) (L.length) 1 (cI L))),(7,(.v (.int .i64 L.length))),(8,(.v (.int .i64 (.ofNat 0))))],[],0,[]⟩) (e:=.normal) (ps:=[]) [.go,.go,.go] (by kernel_rfl) (by kernel_rfl) trivial rfl) (Hd.en_n (su_14 z L hL hb w hs))
theorem su_8 (z:Value) (L:List Int) (hL:L.length≤1000) (hb:∀ i,i < L.length→0≤intAt (cI L) (i * 1)∧intAt (cI L) (i * 1)≤1000000) (w:World) (hs:LN):Goes pg 17 suK6 (⟨[(0,(.xl (z) (L.length) 1 (cI L))),(3,(.v (.int .i64 (.ofNat 0))))],[],0,[]⟩) (BaseW.H w hs) (OutH pg Try.f64 17 (.int .i64 (suF (cI L) L.length)) w):=by
 exact gS (by kernel_rfl) (su_11 z L hL hb w hs)
theorem su_5 (z:Value) (L:List Int) (hL:L.length≤1000) (hb:∀ i,i < L.length→0≤intAt (cI L) (i * 1)∧intAt (cI L) (i * 1)≤1000000) (w:World) (hs:LN):Goes pg 17 suK3 (⟨[(0,(.xl (z) (L.length) 1 (cI L)))],[],0,[]⟩) (BaseW.H w hs) (OutH pg Try.f64 17 (.int .i64 (suF (cI L) L.length)) w):=by
 have hcl_L:=cI_len L
 refine gS (by kernel_rfl) ?_
 exact gL isN_e (gT cm (kN) 200 (T':=⟨[(0,(.xl (z) (L.length) 1 (cI L))),(3,(.v (.int .i64 (.ofNat 0))))],[],0,[]⟩) (e:=.normal) (ps:=[]) [.go] (by kernel_rfl) (by kernel_rfl) trivial rfl) (Hd.en_n (su_8 z L hL hb w hs))
theorem su_2 (z:Value) (L:List Int) (hL:L.length≤1000) (hb:∀ i,i < L.length→0≤intAt (cI L) (i * 1)∧intAt (cI L) (i * 1)≤1000000) (w:World) (hs:LN):Goes pg 17 suK1 (⟨[(0,(.xl z L.length 1 (cI L)))],[],0,[]⟩) (BaseW.H w hs) (OutH pg Try.f64 17 (.int .i64 (suF (cI L) L.length)) w):=by
 have hcl_L:=cI_len L
 refine gS (by kernel_rfl) ?_
 exact gL isN_e (gT cm (kN) 200 (T':=⟨[(0,(.xl (z) (L.length) 1 (cI L)))],[],0,[]⟩) (e:=.normal) (ps:=[]) [.go] (by kernel_rfl) (by kernel_rfl) trivial rfl) (Hd.en_n (su_5 z L hL hb w hs))
theorem sum_g (z:Value) (L:List Int) (hL:L.length≤1000) (hb:∀ i,i < L.length→0≤intAt (cI L) (i * 1)∧intAt (cI L) (i * 1)≤1000000):GivesA pg 64 [(.xl z L.length 1 (cI L))] (.int .i64 (suF (cI L) L.length)) :=
 givesA_partsH 17 Try.func64 (by kernel_rfl) (by kernel_rfl) (by kernel_rfl) (fun w=>goes_less (by kernel_rfl) (by kernel_rfl) (by kernel_rfl) (by kernel_rfl) (su_2 z L hL hb w []))
def suS:List Vw→Option (Res1×List Prop):=fun vs =>
 match vs with
 | [.lst n k c]=>some (.val (.v (.int .i64 (suF c n))),[IsC k n c,n≤1000,∀ i,i < n→0≤intAt c (i * 1)∧intAt c (i * 1)≤1000000])
 | _=>none
def suO:OrcH:=avOrc 64 [1] suS
theorem known_su:Known pg (clsO suO):=known_av (fun vs r ps h hp=>by
 unfold suS at h
 split at h
 ·cases h
  obtain ⟨⟨rfl,L,rfl,rfl⟩,hn,hb,-⟩:=hp
  refine ⟨⟨⟨_,cI_plain L⟩,trivial⟩,fun ys hy=>?_⟩
  obtain ⟨y1,rfl⟩:=len1 hy
  exact ⟨_,rfl,sum_g y1 L hn hb⟩
 ·cases h)
def coOa:OrcH:=orO suO chOa
def coOb:OrcH:=orO suO chOb
theorem known_coa:Known pg (clsO coOa):=known_or known_su known_cha
theorem known_cob:Known pg (clsO coOb):=known_or known_su known_chb
theorem coI_bd {n d q:Int} {y:Value} {P:PL} {st:Nat→Bool} (hE:roE n d q (cT P) P.length=0) {i:Nat} (h:i < (flt (stM n d q y P st) P.length).length):0≤coI (cT P) (cI (flt (stM n d q y P st) P.length)) i∧coI (cT P) (cI (flt (stM n d q y P st) P.length)) i≤1000000:=by
 have h1:=fltM_bd h
 have h2:=(roE_zero hE).2.2 (intAt (cI (flt (stM n d q y P st) P.length)) (0 + i * 1)).toNat (by omega)
 unfold posP at h2
 exact ⟨h2.2.2.2.1,h2.2.2.2.2⟩
end
end Go.Proofs.Ytnphldmnakbknaa
