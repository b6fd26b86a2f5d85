import Derived.Test.YtnphldmnakbknaaC3
set_option maxHeartbeats 4000000
set_option linter.all false
/- What posts cost. -/
namespace Go.Proofs.Ytnphldmnakbknaa
open Go Ev
noncomputable section
section
variable (P : PL) (d : Int) (i m n : Nat) (q : Int) (st : Nat → Bool) (y : Value)
abbrev qCb_14:=(flt (stM n d q y P st) P.length)
abbrev qCb_10:Nat×Ev.AV:=(7,(.slu 1 0 ((qCb_14 P d n q st y).length) 0))
abbrev qCb_9:Nat×Ev.AV:=(8,(.v (.int .i64 ((((qCb_14 P d n q st y).length:Nat):Int)))))
abbrev qCb_8:Ev.AB:=(.cells (rdT [(.v (.int .i64 n)),(.v (.int .i64 (d))),(.v (.int .i64 (q))),(.xl (y) (P.length) 3 (cT P))] (st)) 67)
abbrev qCb_7:Nat×Ev.AB:=(0,(qCb_8 P d n q st y))
abbrev qCb_13:=(cI (qCb_14 P d n q st y))
abbrev qCb_12:Ev.AB:=(.row (qCb_13 P d n q st y) 3 1)
abbrev qCb_11:Nat×Ev.AB:=(1,(qCb_12 P d n q st y))
abbrev qCb_1:Ev.Lit:=⟨[(1,(.ptr 0 0)),(3,(.slu 2 0 (i + 1) 0)),(qCb_10 P d n q st y),(qCb_9 P d n q st y),(9,(.v (.int .i64 (((i + 1):Nat):Int))))],[],3,[(qCb_7 P d n q st y),(qCb_11 P d n q st y),(2,(.row (cI (tabL (coI (cT P) (qCb_13 P d n q st y)) (i + 1))) 2 1))]⟩
abbrev qCb_15:Nat×Ev.AV:=(3,(.v (Value.slice none 0 0)))
abbrev qCb_2:Ev.Lit:=⟨[(1,(.ptr 0 0)),qCb_15,(qCb_10 P d n q st y),(qCb_9 P d n q st y),(9,(.v (.int .i64 0)))],[],2,[(qCb_7 P d n q st y),(qCb_11 P d n q st y)]⟩
abbrev qCb_3:Ev.Lit:=⟨[(1,(.ptr 0 0)),qCb_15,(qCb_10 P d n q st y),(qCb_9 P d n q st y),(9,(.v (.int .i64 (.ofNat 0))))],[],2,[(qCb_7 P d n q st y),(qCb_11 P d n q st y)]⟩
abbrev qCb_4:Ev.Lit:=⟨[(1,(.ptr 0 0)),qCb_15],[],1,[(qCb_7 P d n q st y)]⟩
abbrev qCb_5:Ev.Lit:=⟨[(1,(.ptr 0 0))],[],1,[(qCb_7 P d n q st y)]⟩
abbrev qCb_6:Ev.Lit:=⟨[(3,(.slu 2 0 ((m) + 1) 0))],[],3,[(2,(.row (cI (tabL (coI (cT P) (qCb_13 P d n q st y)) ((m) + 1))) 2 1))]⟩
end
def cobK1:Code:=bodyC Try.f45
def cobK3:Code:=tlC cobK1
def cobK6:Code:=tlC cobK3
def cobK9:Code:=tlC cobK6
def cobK10:Code:=(hdC cobK6)
def cobK12:Code:=tlC cobK10
def cobK17:Code:=loopC cobK12
theorem cob_18 (n:Nat) (d q:Int) (y:Value) (P:PL) (st:Nat→Bool) (m:Nat) (hE:roE n d q (cT P) P.length=0) (h0:(flt (stM n d q y P st) P.length).length=m + 1) (hi1:0≤(m + 1)) (hi2:True) (v:BaseW) (eb:EB) (ec:EC) (hs:LN):Goes pg 25 cobK17 ((qCb_2 P d n q st y)) (BaseW.H (bw v 0 eb ec) hs) (Hd.StepC pg 25 0 (fun i:{i:Nat // i≤(m + 1)∧True}=>Ev.fam0 (qCb_2 P d n q st y) (fun i=>(qCb_1 P d i n q st y)) i.1) (fun i:{i:Nat // i≤(m + 1)∧True}=>(m + 1) - i.1) cobK9 (bw v 0 eb ec) (OutM pg Try.f45 25 ((.v (.int .i64 (suC (cT P) (cI (flt (stM n d q y P st) P.length)) (m + 1))))) [] (bw v 0 eb ec)) (⟨0,hi1,hi2⟩:{i:Nat // i≤(m + 1)∧True})):=by
 obtain ⟨hm,⟨ha1,ha2,ha3⟩,hp⟩:=roE_zero hE
 have hfl:=flt_le (stM n d q y P st) P.length
 have hcT:=cT_len P
 have hx0:=fltM_bd (n:=((n:Nat):Int)) (d:=d) (q:=q) (y:=y) (P:=P) (st:=st) (i:=0) (by omega)
 rcases bE (ltI 0 (((flt (stM n d q y P st) P.length).length:Nat):Int)) with hqcob19_1 | hqcob19_1
 ·skip
  have ghqcob19_1:=lT hqcob19_1
  exact gL isN_e (gC cm (known_cob) 200 (T':=⟨[(1,(.ptr 0 0)),(3,(.slu 2 0 (0 + 1) 0)),(qCb_10 P d n q st y),(qCb_9 P d n q st y),(9,(.v (.int .i64 (((0 + 1):Nat):Int))))],[],3,[(qCb_7 P d n q st y),(qCb_11 P d n q st y),(2,(.row (cI (tabL (coI (cT P) (cI (flt (stM n d q y P st) P.length))) (0 + 1))) 2 1))]⟩) (e:=.normal) (m:=4) (ps:=[ltI 0 (((flt (stM n d q y P st) P.length).length:Nat):Int)=true,0 < (flt (stM n d q y P st) P.length).length,loadL pg (cI (flt (stM n d q y P st) P.length)) (0 + 0 * 1) 3=some (.v (.int .i64 (intAt (cI (flt (stM n d q y P st) P.length)) (0 + 0 * 1)))),0≤intAt (cI (flt (stM n d q y P st) P.length)) (0 + 0 * 1),(intAt (cI (flt (stM n d q y P st) P.length)) (0 + 0 * 1)).toNat < P.length,(intAt (cI (flt (stM n d q y P st) P.length)) (0 + 0 * 1)).toNat * 3 + 2 < ((cT P):List AV).length,loadL pg (cT P) ((intAt (cI (flt (stM n d q y P st) P.length)) (0 + 0 * 1)).toNat * 3 + 2) 2=some (.v (.int .i64 (intAt (cT P) ((intAt (cI (flt (stM n d q y P st) P.length)) (0 + 0 * 1)).toNat * 3 + 2)))),inR .i64 (((0:Nat):Int) + 1)]) [.go,.b true,.sym,.sym,.go,.go,.go,.go,.go,.go,.nat,.sym,.sym,.go,.go,.go,.go,.go,.go,.go,.go,.go,.go,.go,.go,.go,.go,.go] [0,1,3] [(.ptr 0 0),(.slu 3 0 1 0),(.slu 1 0 ((flt (stM n d q y P st) P.length).length) 0),(.v (.int .i64 ((((flt (stM n d q y P st) P.length).length:Nat):Int)))),(.v (.int .i64 (.ofNat 1)))] [(qCb_8 P d n q st y),(qCb_12 P d n q st y),(.row [(.v (.int .i64 (intAt (cT P) ((intAt (cI (flt (stM n d q y P st) P.length)) (0 + 0 * 1)).toNat * 3 + 2))))] 2 1)] (by kernel_rfl) (by kernel_rfl) ⟨hqcob19_1,(by omega),(by rw [Nat.zero_add,Nat.mul_one]; exact cI_load (by omega) 3 (u3) rfl),(by omega),(by omega),(by omega),(cT_ld (by omega) 2 (Try.underlying2) rfl),(by show -9223372036854775808≤_∧_≤9223372036854775807; constructor <;> omega),trivial⟩ rfl rfl (by decide) rfl ⟨nr_ptr rfl,nr_slu rfl,nr_slu rfl,nr_v _,nr_int (show (1:Int)=(((0 + 1):Nat):Int) from by omega),trivial⟩ ⟨⟨by show 0 < 3; decide,nrb_cells (nrl_free (freeL_rd _ _ _ _ _ _))⟩,⟨by show 1 < 3; decide,nrb_row (nrl_plain (cI_plain _))⟩,⟨by show 2 < 3; decide,nrb_row (nrl_eq (show ((cI (tabL (coI (cT P) (cI (flt (stM n d q y P st) P.length))) (0 + 1))):List AV)=[(.v (.int .i64 (intAt (cT P) ((intAt (cI (flt (stM n d q y P st) P.length)) (0 + 0 * 1)).toNat * 3 + 2))))] from by (first | (rw [takeT rfl]; exact tab_row) | rfl)) (cI_plain _))⟩,trivial⟩) (eO (⟨0 + 1,by omega,trivial⟩) (by show (m + 1) - (0 + 1) < (m + 1) - 0; omega) rfl)
 ·skip
  have ghqcob19_1:=lF hqcob19_1
  exfalso; omega
theorem cob_22 (n:Nat) (d q:Int) (y:Value) (P:PL) (st:Nat→Bool) (m:Nat) (hE:roE n d q (cT P) P.length=0) (h0:(flt (stM n d q y P st) P.length).length=m + 1) (h0b:True) (hqcob21_1:(ltI (((m) + 1:Nat):Int) (((flt (stM n d q y P st) P.length).length:Nat):Int))=false) (v:BaseW) (eb:EB) (ec:EC) (hs:LN):Goes pg 25 cobK9 ((qCb_6 P d m n q st y)) (BaseW.H (bw v 0 eb ec) hs) (OutM pg Try.f45 25 ((.v (.int .i64 (suC (cT P) (cI (flt (stM n d q y P st) P.length)) (m + 1))))) [] (bw v 0 eb ec)):=by
 obtain ⟨hm,⟨ha1,ha2,ha3⟩,hp⟩:=roE_zero hE
 have hfl:=flt_le (stM n d q y P st) P.length
 have hcT:=cT_len P
 have hx0:=fltM_bd (n:=((n:Nat):Int)) (d:=d) (q:=q) (y:=y) (P:=P) (st:=st) (i:=0) (by omega)
 have ghqcob21_1:=lF hqcob21_1
 exact gL isR_e (gK cm (known_cob) 200 (T':=⟨[(2,(.v (.int .i64 (suF (List.take ((m + 1) * (0 + 1)) (List.drop 0 (cI (tabL (coI (cT P) (cI (flt (stM n d q y P st) P.length))) (m + 1))))) (m + 1)))))],[],0,[]⟩) (e:=.ret) (m:=3) (ps:=[0 + (m + 1) * (0 + 1)≤((cI (tabL (coI (cT P) (cI (flt (stM n d q y P st) P.length))) (m + 1))):List AV).length,IsC (0 + 1) (m + 1) (List.take ((m + 1) * (0 + 1)) (List.drop 0 (cI (tabL (coI (cT P) (cI (flt (stM n d q y P st) P.length))) (m + 1))))),m + 1≤1000,∀ (i:Nat),i < m + 1→0≤intAt (List.take ((m + 1) * (0 + 1)) (List.drop 0 (cI (tabL (coI (cT P) (cI (flt (stM n d q y P st) P.length))) (m + 1))))) (i * 1)∧intAt (List.take ((m + 1) * (0 + 1)) (List.drop 0 (cI (tabL (coI (cT P) (cI (flt (stM n d q y P st) P.length))) (m + 1))))) (i * 1)≤1000000]) [.go,.go] (by kernel_rfl) (by kernel_rfl) ⟨(by show _≤(cI _).length; rw [cI_len,tabL_len]; omega),⟨rfl,(tabL (coI (cT P) (cI (flt (stM n d q y P st) P.length))) (m + 1)),takeT rfl,(tabL_len _ _).symm⟩,(by omega),(fun i hi=>by rw [takeT rfl,Nat.mul_one,tab_int0 _ hi]; exact coI_bd hE (by omega)),trivial⟩ rfl (by show 0≤3; decide) ⟨⟨nb_v _,trivial⟩,trivial,rfl⟩ (by show 0≤0; decide)) (en_eqM (r:=(.v (.int .i64 (suF (List.take ((m + 1) * (0 + 1)) (List.drop 0 (cI (tabL (coI (cT P) (cI (flt (stM n d q y P st) P.length))) (m + 1))))) (m + 1))))) (ys:=[]) (by (rw [takeT rfl,suF_C (Nat.le_refl _)])) (by rfl) (en_retM (by kernel_rfl) (by kernel_rfl) rfl (.inr rfl)))
theorem cob_20 (n:Nat) (d q:Int) (y:Value) (P:PL) (st:Nat→Bool) (m:Nat) (hE:roE n d q (cT P) P.length=0) (h0:(flt (stM n d q y P st) P.length).length=m + 1) (i:Nat) (hi1:(i + 1)≤(m + 1)) (hi2:True) (v:BaseW) (eb:EB) (ec:EC) (hs:LN):Goes pg 25 cobK17 ((qCb_1 P d i n q st y)) (BaseW.H (bw v 0 eb ec) hs) (Hd.StepC pg 25 0 (fun i:{i:Nat // i≤(m + 1)∧True}=>Ev.fam0 (qCb_2 P d n q st y) (fun i=>(qCb_1 P d i n q st y)) i.1) (fun i:{i:Nat // i≤(m + 1)∧True}=>(m + 1) - i.1) cobK9 (bw v 0 eb ec) (OutM pg Try.f45 25 ((.v (.int .i64 (suC (cT P) (cI (flt (stM n d q y P st) P.length)) (m + 1))))) [] (bw v 0 eb ec)) (⟨(i + 1),hi1,hi2⟩:{i:Nat // i≤(m + 1)∧True})):=by
 obtain ⟨hm,⟨ha1,ha2,ha3⟩,hp⟩:=roE_zero hE
 have hfl:=flt_le (stM n d q y P st) P.length
 have hcT:=cT_len P
 have hx0:=fltM_bd (n:=((n:Nat):Int)) (d:=d) (q:=q) (y:=y) (P:=P) (st:=st) (i:=0) (by omega)
 rcases bE (ltI ((i + 1:Nat):Int) (((flt (stM n d q y P st) P.length).length:Nat):Int)) with hqcob21_1 | hqcob21_1
 ·skip
  have ghqcob21_1:=lT hqcob21_1
  have hxi:=fltM_bd (n:=((n:Nat):Int)) (d:=d) (q:=q) (y:=y) (P:=P) (st:=st) (i:=i + 1) (by omega)
  exact gL isN_e (gC cm (known_cob) 200 (T':=⟨[(1,(.ptr 0 0)),(3,(.slu 2 0 ((i + 1) + 1) 0)),(qCb_10 P d n q st y),(qCb_9 P d n q st y),(9,(.v (.int .i64 ((((i + 1) + 1):Nat):Int))))],[],3,[(qCb_7 P d n q st y),(qCb_11 P d n q st y),(2,(.row (cI (tabL (coI (cT P) (cI (flt (stM n d q y P st) P.length))) ((i + 1) + 1))) 2 1))]⟩) (e:=.normal) (m:=5) (ps:=[ltI ((i + 1:Nat):Int) (((flt (stM n d q y P st) P.length).length:Nat):Int)=true,i + 1 < (flt (stM n d q y P st) P.length).length,loadL pg (cI (flt (stM n d q y P st) P.length)) (0 + (i + 1) * 1) 3=some (.v (.int .i64 (intAt (cI (flt (stM n d q y P st) P.length)) (0 + (i + 1) * 1)))),0≤intAt (cI (flt (stM n d q y P st) P.length)) (0 + (i + 1) * 1),(intAt (cI (flt (stM n d q y P st) P.length)) (0 + (i + 1) * 1)).toNat < P.length,(intAt (cI (flt (stM n d q y P st) P.length)) (0 + (i + 1) * 1)).toNat * 3 + 2 < ((cT P):List AV).length,loadL pg (cT P) ((intAt (cI (flt (stM n d q y P st) P.length)) (0 + (i + 1) * 1)).toNat * 3 + 2) 2=some (.v (.int .i64 (intAt (cT P) ((intAt (cI (flt (stM n d q y P st) P.length)) (0 + (i + 1) * 1)).toNat * 3 + 2)))),i + 1≤i + 1,i + 1≤i + 1,allOne (List.take (1 * 1) (List.drop 0 (splice (repL 1 (List.map AV.v (Value.int IntKind.i64 0).cells.toList)) (0 * 1) (AV.v (Value.int IntKind.i64 (intAt (cT P) ((intAt (cI (flt (stM n d q y P st) P.length)) (0 + (i + 1) * 1)).toNat * 3 + 2)))).cells)))=true,¬i + 1 + 1≤i + 1,i + 1 + 1≤1000000,((List.take ((i + 1) * 1) (List.drop 0 (cI (tabL (coI (cT P) (cI (flt (stM n d q y P st) P.length))) (i + 1))))):List AV).length + ([(.v (.int .i64 (intAt (cT P) ((intAt (cI (flt (stM n d q y P st) P.length)) (0 + (i + 1) * 1)).toNat * 3 + 2))))]:List AV).length=(i + 1 + 1) * 1,0 + (i + 1) * 1≤((cI (tabL (coI (cT P) (cI (flt (stM n d q y P st) P.length))) (i + 1))):List AV).length,inR .i64 (((i + 1:Nat):Int) + 1)]) [.go,.b true,.sym,.sym,.go,.go,.go,.go,.go,.go,.nat,.sym,.sym,.go,.go,.go,.go,.go,.go,.go,.sym,.go,.go,.nat,.go,.go,.go,.go] [0,1,4] [(.ptr 0 0),(.slu 4 0 (i + 1 + 1) 0),(.slu 1 0 ((flt (stM n d q y P st) P.length).length) 0),(.v (.int .i64 ((((flt (stM n d q y P st) P.length).length:Nat):Int)))),(.v (.int .i64 (((i + 1:Nat):Int) + 1)))] [(qCb_8 P d n q st y),(qCb_12 P d n q st y),(.row ((List.take ((i + 1) * 1) (List.drop 0 (cI (tabL (coI (cT P) (cI (flt (stM n d q y P st) P.length))) (i + 1))))) ++ [(.v (.int .i64 (intAt (cT P) ((intAt (cI (flt (stM n d q y P st) P.length)) (0 + (i + 1) * 1)).toNat * 3 + 2))))]) 2 1)] (by kernel_rfl) (by kernel_rfl) ⟨hqcob21_1,(by omega),(by rw [Nat.zero_add,Nat.mul_one]; exact cI_load (by omega) 3 (u3) rfl),(by omega),(by omega),(by omega),(cT_ld (by omega) 2 (Try.underlying2) rfl),(Nat.le_refl _),(Nat.le_refl _),rfl,(by omega),(by omega),(by rw [takeT rfl,cI_len,tabL_len]; show i + 1 + 1=_; omega),(by show _≤(cI _).length; rw [cI_len,tabL_len]; omega),(by show -9223372036854775808≤_∧_≤9223372036854775807; constructor <;> omega),trivial⟩ rfl rfl (by decide) rfl ⟨nr_ptr rfl,nr_slu rfl,nr_slu rfl,nr_v _,nr_int (show ((((i + 1:Nat):Int) + 1):Int)=((((i + 1) + 1):Nat):Int) from by omega),trivial⟩ ⟨⟨by show 0 < 3; decide,nrb_cells (nrl_free (freeL_rd _ _ _ _ _ _))⟩,⟨by show 1 < 3; decide,nrb_row (nrl_plain (cI_plain _))⟩,⟨by show 2 < 3; decide,nrb_row (nrl_eq (show ((cI (tabL (coI (cT P) (cI (flt (stM n d q y P st) P.length))) ((i + 1) + 1))):List AV)=((List.take ((i + 1) * 1) (List.drop 0 (cI (tabL (coI (cT P) (cI (flt (stM n d q y P st) P.length))) (i + 1))))) ++ [(.v (.int .i64 (intAt (cT P) ((intAt (cI (flt (stM n d q y P st) P.length)) (0 + (i + 1) * 1)).toNat * 3 + 2))))]) from by (first | (rw [takeT rfl]; exact tab_row) | rfl)) (cI_plain _))⟩,trivial⟩) (eO (⟨(i + 1) + 1,by omega,trivial⟩) (by show (m + 1) - ((i + 1) + 1) < (m + 1) - (i + 1); omega) rfl)
 ·skip
  have ghqcob21_1:=lF hqcob21_1
  obtain rfl:m=i:=by omega
  exact gL isX_e (gT cm (known_cob) 200 (T':=(qCb_6 P d m n q st y)) (e:=.exit 0) (ps:=[ltI (((m) + 1:Nat):Int) (((flt (stM n d q y P st) P.length).length:Nat):Int)=false]) [.go,.b false] (by kernel_rfl) (by kernel_rfl) ⟨hqcob21_1,trivial⟩ rfl) (Hd.en_sx (cob_22 n d q y P st m hE h0 hi2  hqcob21_1 v eb ec hs))
theorem cob_16 (n:Nat) (d q:Int) (y:Value) (P:PL) (st:Nat→Bool) (m:Nat) (hE:roE n d q (cT P) P.length=0) (h0:(flt (stM n d q y P st) P.length).length=m + 1) (v:BaseW) (eb:EB) (ec:EC) (hs:LN):Goes pg 25 cobK12 ((qCb_3 P d n q st y)) (BaseW.H (bw v 0 eb ec) hs) (Hd.AfterN pg 25 cobK9 (bw v 0 eb ec) (OutM pg Try.f45 25 ((.v (.int .i64 (suC (cT P) (cI (flt (stM n d q y P st) P.length)) (m + 1))))) [] (bw v 0 eb ec))):=by
 obtain ⟨hm,⟨ha1,ha2,ha3⟩,hp⟩:=roE_zero hE
 have hfl:=flt_le (stM n d q y P st) P.length
 have hcT:=cT_len P
 have hx0:=fltM_bd (n:=((n:Nat):Int)) (d:=d) (q:=q) (y:=y) (P:=P) (st:=st) (i:=0) (by omega)
 exact Hd.goes_loopA (id:=0) (by kernel_rfl) (by kernel_rfl) (fun i:{i:Nat // i≤(m + 1)∧True}=>Ev.fam0 (qCb_2 P d n q st y) (fun i=>(qCb_1 P d i n q st y)) i.1) (fun i:{i:Nat // i≤(m + 1)∧True}=>(m + 1) - i.1) (fun i hs=>match i with | ⟨0,h1,h2⟩=>cob_18 n d q y P st m hE h0 h1 h2 v eb ec hs | ⟨j + 1,h1,h2⟩=>cob_20 n d q y P st m hE h0 j h1 h2 v eb ec hs) ⟨0,Nat.zero_le _,trivial⟩ hs
theorem cob_14 (n:Nat) (d q:Int) (y:Value) (P:PL) (st:Nat→Bool) (m:Nat) (hE:roE n d q (cT P) P.length=0) (h0:(qCb_14 P d n q st y).length=m + 1) (v:BaseW) (eb:EB) (ec:EC) (hs:LN):Goes pg 25 cobK12 ((qCb_3 P d n q st y)) (BaseW.H (bw v 0 eb ec) hs) (Hd.AfterN pg 25 cobK9 (bw v 0 eb ec) (OutM pg Try.f45 25 ((.v (.int .i64 (suC (cT P) (qCb_13 P d n q st y) (m + 1))))) [] (bw v 0 eb ec))):=by
 exact cob_16 n d q y P st m hE h0 v eb ec hs
theorem cob_11 (n:Nat) (d q:Int) (y:Value) (P:PL) (st:Nat→Bool) (m:Nat) (hE:roE n d q (cT P) P.length=0) (h0:(flt (stM n d q y P st) P.length).length=m + 1) (v:BaseW) (eb:EB) (ec:EC) (hs:LN):Goes pg 25 cobK10 ((qCb_4 P d n q st y)) (BaseW.H (bw v 0 eb ec) hs) (Hd.AfterN pg 25 cobK9 (bw v 0 eb ec) (OutM pg Try.f45 25 ((.v (.int .i64 (suC (cT P) (cI (flt (stM n d q y P st) P.length)) (m + 1))))) [] (bw v 0 eb ec))):=by
 obtain ⟨hm,⟨ha1,ha2,ha3⟩,hp⟩:=roE_zero hE
 have hfl:=flt_le (stM n d q y P st) P.length
 have hcT:=cT_len P
 have hx0:=fltM_bd (n:=((n:Nat):Int)) (d:=d) (q:=q) (y:=y) (P:=P) (st:=st) (i:=0) (by omega)
 refine gS (by kernel_rfl) ?_
 exact gL isN_e (gT cm (known_cob) 200 (T':=(qCb_3 P d n q st y)) (e:=.normal) (ps:=[FreeL (cT P),IsRd (rdT [.v (.int .i64 n),.v (.int .i64 d),.v (.int .i64 q),AV.xl y P.length 3 (cT P)] (st)),P.length≤24,0 < (flt (stM n d q y P st) P.length).length]) [.go,.go,.go] (by kernel_rfl) (by kernel_rfl) ⟨(fP (cT_plain P)),⟨_,_,_,_,P,st,rfl⟩,(by omega),(by omega),trivial⟩ rfl) (Hd.en_n (cob_14 n d q y P st m hE h0 v eb ec hs))
theorem cob_8 (n:Nat) (d q:Int) (y:Value) (P:PL) (st:Nat→Bool) (m:Nat) (hE:roE n d q (cT P) P.length=0) (h0:(qCb_14 P d n q st y).length=m + 1) (v:BaseW) (eb:EB) (ec:EC) (hs:LN):Goes pg 25 cobK6 ((qCb_4 P d n q st y)) (BaseW.H (bw v 0 eb ec) hs) (OutM pg Try.f45 25 ((.v (.int .i64 (suC (cT P) (qCb_13 P d n q st y) (m + 1))))) [] (bw v 0 eb ec)):=by
 exact gS (by kernel_rfl) (cob_11 n d q y P st m hE h0 v eb ec hs)
theorem cob_5 (n:Nat) (d q:Int) (y:Value) (P:PL) (st:Nat→Bool) (m:Nat) (hE:roE n d q (cT P) P.length=0) (h0:(flt (stM n d q y P st) P.length).length=m + 1) (v:BaseW) (eb:EB) (ec:EC) (hs:LN):Goes pg 25 cobK3 ((qCb_5 P d n q st y)) (BaseW.H (bw v 0 eb ec) hs) (OutM pg Try.f45 25 ((.v (.int .i64 (suC (cT P) (cI (flt (stM n d q y P st) P.length)) (m + 1))))) [] (bw v 0 eb ec)):=by
 obtain ⟨hm,⟨ha1,ha2,ha3⟩,hp⟩:=roE_zero hE
 have hfl:=flt_le (stM n d q y P st) P.length
 have hcT:=cT_len P
 have hx0:=fltM_bd (n:=((n:Nat):Int)) (d:=d) (q:=q) (y:=y) (P:=P) (st:=st) (i:=0) (by omega)
 refine gS (by kernel_rfl) ?_
 exact gL isN_e (gT cm (known_cob) 200 (T':=(qCb_4 P d n q st y)) (e:=.normal) (ps:=[]) [.go] (by kernel_rfl) (by kernel_rfl) trivial rfl) (Hd.en_n (cob_8 n d q y P st m hE h0 v eb ec hs))
theorem cob_2 (n:Nat) (d q:Int) (y:Value) (P:PL) (st:Nat→Bool) (m:Nat) (hE:roE n d q (cT P) P.length=0) (h0:(flt (stM n d q y P st) P.length).length=m + 1) (v:BaseW) (eb:EB) (ec:EC) (hs:LN):Goes pg 25 cobK1 (⟨[(0,(.agg (rdT [.v (.int .i64 n),.v (.int .i64 d),.v (.int .i64 q),.xl y P.length 3 (cT P)] (st))))],[],0,[]⟩) (BaseW.H (bw v 0 eb ec) hs) (OutM pg Try.f45 25 ((.v (.int .i64 (suC (cT P) (cI (flt (stM n d q y P st) P.length)) (m + 1))))) [] (bw v 0 eb ec)):=by
 obtain ⟨hm,⟨ha1,ha2,ha3⟩,hp⟩:=roE_zero hE
 have hfl:=flt_le (stM n d q y P st) P.length
 have hcT:=cT_len P
 have hx0:=fltM_bd (n:=((n:Nat):Int)) (d:=d) (q:=q) (y:=y) (P:=P) (st:=st) (i:=0) (by omega)
 refine gS (by kernel_rfl) ?_
 exact gL isN_e (gT cm (known_cob) 200 (T':=(qCb_5 P d n q st y)) (e:=.normal) (ps:=[]) [.go,.go] (by kernel_rfl) (by kernel_rfl) trivial rfl) (Hd.en_n (cob_5 n d q y P st m hE h0 v eb ec hs))
theorem cost_b (n:Nat) (d q:Int) (y:Value) (P:PL) (st:Nat→Bool) (m:Nat) (hE:roE n d q (cT P) P.length=0) (h0:(qCb_14 P d n q st y).length=m + 1):GivesM pg 45 [(.agg (rdT [.v (.int .i64 n),.v (.int .i64 d),.v (.int .i64 q),.xl y P.length 3 (cT P)] (st)))] [] ((.v (.int .i64 (suC (cT P) (qCb_13 P d n q st y) (m + 1))))) [] :=
 givesM_parts 25 (by kernel_rfl) Try.func45 (by kernel_rfl) (by kernel_rfl) (by kernel_rfl) (fun v eb ec=>goes_less (by kernel_rfl) (by kernel_rfl) (by kernel_rfl) (by kernel_rfl) (cob_2 n d q y P st m hE h0 v eb ec []))
end
end Go.Proofs.Ytnphldmnakbknaa
