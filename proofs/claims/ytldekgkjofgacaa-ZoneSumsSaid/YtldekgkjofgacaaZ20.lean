import Derived.Test.YtldekgkjofgacaaZ20a
set_option maxHeartbeats 4000000
set_option linter.all false
/- Doubted of the reference. -/
namespace Go.Proofs.Ytldekgkjofgacaa
open Go Ev
noncomputable section
theorem hcZ20 (A:List Int) (B:List Bool) (L:PR) (W:List Int):(cI A).length=A.length∧(cR L).length=L.length * 2∧(cB B).length=B.length∧(cI W).length=W.length:=⟨cI_len A,cR_len L,cB_len B,cI_len W⟩
theorem iRZ20 {a:Int} (h : -9223372036854775808≤a) (k:a≤9223372036854775807):inR .i64 a:=⟨h,k⟩
section
variable (A : List Int) (B : List Bool) (L : PR) (W : List Int) (eb : EB) (ec : EC) (i j k m r : Nat) (v : BaseW) (ya yf yl yw : Value)
abbrev q20_36:Nat×Ev.AV:=(9,(.v (.int .i64 r)))
abbrev q20_27:Ev.AB:=(.cells [(.xl (ya) (A.length) 1 (cI A)),(.xl (yl) (L.length) 2 (cR L)),(.xl (yf) (B.length) 1 (cB B)),(.xl (yw) (W.length) 1 (cI W))] 26)
abbrev q20_26:Nat×Ev.AB:=(1,(q20_27 A B L W ya yf yl yw))
abbrev q20_35:=(rdB (cI A) A.length (cR L) (cB B) (m + 1) r)
abbrev q20_34:=(swB (cI A) A.length (cB B) (q20_35 A B L m r) k)
abbrev q20_29:=(cI (tI (q20_34 A B L k m r).fst (m + 1)))
abbrev q20_28:=(cI (tI (q20_34 A B L k m r).snd (m + 1)))
abbrev q20_1:Ev.Lit:=⟨[(1,(.ptr 1 0)),(4,(.slu 2 0 (m + 1) 0)),(5,(.slu 3 0 (m + 1) 0)),(q20_36 r),(10,(.v (.int .i64 (((k + 1) + 1:Nat):Int))))],[],4,[(q20_26 A B L W ya yf yl yw),(2,(.row (splice (q20_29 A B L k m r) (0 + (k + 1) * 1) (AV.v (Value.int IntKind.i64 (if intAt (q20_29 A B L k m r) (0 + (((k + 1:Nat):Int) - 1).toNat * 1) > intAt (q20_29 A B L k m r) (0 + (k + 1) * 1) then intAt (q20_29 A B L k m r) (0 + (((k + 1:Nat):Int) - 1).toNat * 1) else intAt (q20_29 A B L k m r) (0 + (k + 1) * 1)))).cells) 2 1)),(3,(.row (splice (q20_28 A B L k m r) (0 + (((k + 1:Nat):Int) - 1).toNat * 1) (AV.v (Value.int IntKind.i64 (if intAt (q20_28 A B L k m r) (0 + (k + 1) * 1) < intAt (q20_28 A B L k m r) (0 + (((k + 1:Nat):Int) - 1).toNat * 1) then intAt (q20_28 A B L k m r) (0 + (k + 1) * 1) else intAt (q20_28 A B L k m r) (0 + (((k + 1:Nat):Int) - 1).toNat * 1)))).cells) 2 1))]⟩
abbrev q20_2:Ev.Lit:=⟨[(1,(.ptr 1 0)),(4,(.slu 2 0 (m + 1) 0)),(5,(.slu 3 0 (m + 1) 0)),(q20_36 r),(10,(.v (.int .i64 (((k + 1) + 1:Nat):Int))))],[],4,[(q20_26 A B L W ya yf yl yw),(2,(.row (splice (q20_29 A B L k m r) (0 + (((k + 1:Nat):Int) - 1).toNat * 1) (AV.v (Value.int IntKind.i64 (if intAt (q20_29 A B L k m r) (0 + (k + 1) * 1) > intAt (q20_29 A B L k m r) (0 + (((k + 1:Nat):Int) - 1).toNat * 1) then intAt (q20_29 A B L k m r) (0 + (k + 1) * 1) else intAt (q20_29 A B L k m r) (0 + (((k + 1:Nat):Int) - 1).toNat * 1)))).cells) 2 1)),(3,(.row (splice (q20_28 A B L k m r) (0 + (k + 1) * 1) (AV.v (Value.int IntKind.i64 (if intAt (q20_28 A B L k m r) (0 + (((k + 1:Nat):Int) - 1).toNat * 1) < intAt (q20_28 A B L k m r) (0 + (k + 1) * 1) then intAt (q20_28 A B L k m r) (0 + (((k + 1:Nat):Int) - 1).toNat * 1) else intAt (q20_28 A B L k m r) (0 + (k + 1) * 1)))).cells) 2 1))]⟩
abbrev q20_3:Ev.Lit:=⟨[(1,(.ptr 1 0)),(4,(.slu 2 0 (m + 1) 0)),(5,(.slu 3 0 (m + 1) 0)),(7,(.v (.int .i64 (((j + 1):Nat):Int))))],[],4,[(q20_26 A B L W ya yf yl yw),(2,(.row (splice (cI (tI (loA (cI A) (cR L) j) (m + 1))) (0 + (intAt (cI A) (j * 1) - intAt (cI A) (0 * 1)).toNat * 1) (AV.v (Value.int IntKind.i64 (intAt (cR L) (j * 2 + 0)))).cells) 2 1)),(3,(.row (splice (cI (tI (hiA (cI A) (cR L) j) (m + 1))) (0 + (intAt (cI A) (j * 1) - intAt (cI A) (0 * 1)).toNat * 1) (AV.v (Value.int IntKind.i64 (intAt (cR L) (j * 2 + 1)))).cells) 2 1))]⟩
abbrev q20_33:=(swB (cI A) A.length (cB B) (q20_35 A B L m r) (k + 1))
abbrev q20_4:Ev.Lit:=⟨[(1,(.ptr 1 0)),(4,(.slu 2 0 (m + 1) 0)),(5,(.slu 3 0 (m + 1) 0)),(q20_36 r),(10,(.v (.int .i64 (((k + 1) + 1:Nat):Int))))],[],4,[(q20_26 A B L W ya yf yl yw),(2,(.row (cI (tI ((q20_33 A B L k m r).1) (m + 1))) 2 1)),(3,(.row (cI (tI ((q20_33 A B L k m r).2) (m + 1))) 2 1))]⟩
abbrev q20_5:Ev.Lit:=⟨[(1,(.ptr 1 0)),(4,(.slu 2 0 (m + 1) 0)),(5,(.slu 3 0 (m + 1) 0)),(q20_36 r)],[],4,[(q20_26 A B L W ya yf yl yw),(2,(.row (cI (tI (swB (cI A) A.length (cB B) (q20_35 A B L m r) (m)).fst (m + 1))) 2 1)),(3,(.row (cI (tI (swB (cI A) A.length (cB B) (q20_35 A B L m r) (m)).snd (m + 1))) 2 1))]⟩
abbrev q20_6:Ev.Lit:=⟨[(1,(.ptr 1 0)),(4,(.slu 2 0 (m + 1) 0)),(5,(.slu 3 0 (m + 1) 0)),(q20_36 r),(10,(.v (.int .i64 (.ofNat 1))))],[],4,[(q20_26 A B L W ya yf yl yw),(2,(.row (cI (tI (q20_35 A B L m r).fst (m + 1))) 2 1)),(3,(.row (cI (tI (q20_35 A B L m r).snd (m + 1))) 2 1))]⟩
abbrev q20_7:Ev.Lit:=⟨[(1,(.ptr 1 0)),(4,(.slu 2 0 (m + 1) 0)),(5,(.slu 3 0 (m + 1) 0)),(q20_36 r)],[],4,[(q20_26 A B L W ya yf yl yw),(2,(.row (cI (tI (q20_35 A B L m r).fst (m + 1))) 2 1)),(3,(.row (cI (tI (q20_35 A B L m r).snd (m + 1))) 2 1))]⟩
abbrev q20_8:Ev.Lit:=⟨[(1,(.ptr 1 0)),(4,(.slu 2 0 (m + 1) 0)),(5,(.slu 3 0 (m + 1) 0)),(9,(.v (.int .i64 (.ofNat 0))))],[],4,[(q20_26 A B L W ya yf yl yw),(2,(.row (cI (tI (loA (cI A) (cR L) A.length) (m + 1))) 2 1)),(3,(.row (cI (tI (hiA (cI A) (cR L) A.length) (m + 1))) 2 1))]⟩
abbrev q20_9:Ev.Lit:=⟨[(1,(.ptr 1 0)),(4,(.slu 2 0 (i + 1) 0)),(5,(.slu 3 0 (i + 1) 0)),(6,(.v (.int .i64 (((i + 1):Nat):Int))))],[],4,[(q20_26 A B L W ya yf yl yw),(2,(.row (cI (tI (loA (cI A) (cR L) 0) (i + 1))) 2 1)),(3,(.row (cI (tI (hiA (cI A) (cR L) 0) (i + 1))) 2 1))]⟩
abbrev q20_10:Ev.Lit:=⟨[(1,(.ptr 1 0)),(4,(.slu 2 0 (m + 1) 0)),(5,(.slu 3 0 (m + 1) 0)),(7,(.v (.int .i64 (.ofNat 0))))],[],4,[(q20_26 A B L W ya yf yl yw),(2,(.row (cI (tI (loA (cI A) (cR L) 0) (m + 1))) 2 1)),(3,(.row (cI (tI (hiA (cI A) (cR L) 0) (m + 1))) 2 1))]⟩
abbrev q20_11:Ev.Lit:=⟨[(1,(.ptr 1 0)),(4,(.slu 2 0 (m + 1) 0)),(5,(.slu 3 0 (m + 1) 0))],[],4,[(q20_26 A B L W ya yf yl yw),(2,(.row (cI (tI (loA (cI A) (cR L) (A.length)) (m + 1))) 2 1)),(3,(.row (cI (tI (hiA (cI A) (cR L) (A.length)) (m + 1))) 2 1))]⟩
abbrev q20_12:Ev.Lit:=⟨[(1,(.ptr 1 0)),(4,(.slu 2 0 ((m) + 1) 0)),(5,(.slu 3 0 ((m) + 1) 0))],[],4,[(q20_26 A B L W ya yf yl yw),(2,(.row (cI (tI (loA (cI A) (cR L) 0) ((m) + 1))) 2 1)),(3,(.row (cI (tI (hiA (cI A) (cR L) 0) ((m) + 1))) 2 1))]⟩
abbrev q20_18:Ev.Lit:=⟨[(2,(.slu 2 0 (m + 1) 0)),(3,(.slu 3 0 (m + 1) 0))],[],4,[(2,(.row (cI (tI ((rdB (cI A) A.length (cR L) (cB B) (m + 1) (m + 1)).1) (m + 1))) 2 1)),(3,(.row (cI (tI ((rdB (cI A) A.length (cR L) (cB B) (m + 1) (m + 1)).2) (m + 1))) 2 1))]⟩
abbrev q20_13:=(BackQ 117 (fun _:Unit=>(q20_18 A B L m)) (fun _:Unit=>True) (bw v 1 eb ec))
abbrev q20_32:Nat×Ev.AB:=(2,(.row (cI (tI (rdB (cI A) A.length (cR L) (cB B) (m + 1) (m + 1)).fst (m + 1))) 2 1))
abbrev q20_31:Nat×Ev.AB:=(3,(.row (cI (tI (rdB (cI A) A.length (cR L) (cB B) (m + 1) (m + 1)).snd (m + 1))) 2 1))
abbrev q20_14:Ev.Lit:=⟨[(3,(.slu 2 0 (m + 1) 0)),(4,(.slu 3 0 (m + 1) 0)),(5,(.v (.int .i64 0)))],[],4,[(q20_32 A B L m),(q20_31 A B L m)]⟩
abbrev q20_15:Ev.Lit:=⟨[(1,(.ptr 1 0)),(4,(.v (Value.slice none 0 0))),(5,(.v (Value.slice none 0 0))),(6,(.v (.int .i64 0)))],[],2,[(q20_26 A B L W ya yf yl yw)]⟩
abbrev q20_16:Ev.Lit:=⟨[(1,(.ptr 1 0)),(4,(.v (Value.slice none 0 0))),(5,(.v (Value.slice none 0 0))),(6,(.v (.int .i64 (.ofNat 0))))],[],2,[(q20_26 A B L W ya yf yl yw)]⟩
abbrev q20_17:Ev.Lit:=⟨[(4,(.slu 2 0 (m + 1) 0)),(5,(.slu 3 0 (m + 1) 0))],[],4,[(2,(.row (cI (tI (rdB (cI A) A.length (cR L) (cB B) (m + 1) ((m + 1))).fst (m + 1))) 2 1)),(3,(.row (cI (tI (rdB (cI A) A.length (cR L) (cB B) (m + 1) ((m + 1))).snd (m + 1))) 2 1))]⟩
abbrev q20_19:Ev.Lit:=⟨[(3,(.slu 2 0 (m + 1) 0)),(4,(.slu 3 0 (m + 1) 0))],[],4,[(q20_32 A B L m),(q20_31 A B L m)]⟩
abbrev q20_20:Ev.Lit:=⟨[(1,(.ptr 1 0)),(4,(.v (Value.slice none 0 0))),(5,(.v (Value.slice none 0 0)))],[],2,[(q20_26 A B L W ya yf yl yw)]⟩
abbrev q20_21:=(cI (tI (hiA (cI A) (cR L) 0) (i + 1)) ++ List.take (1 * 1) (List.drop 0 (splice (repL 1 (List.map AV.v (Value.int IntKind.i64 0).cells.toList)) (0 * 1) (AV.v (Value.int IntKind.i64 200)).cells)))
abbrev q20_22:=(cI (tI (loA (cI A) (cR L) 0) (i + 1)) ++ List.take (1 * 1) (List.drop 0 (splice (repL 1 (List.map AV.v (Value.int IntKind.i64 0).cells.toList)) (0 * 1) (AV.v (Value.int IntKind.i64 0)).cells)))
abbrev q20_23:Ev.Lit:=⟨[(1,(.ptr 0 0))],[],1,[(0,(q20_27 A B L W ya yf yl yw))]⟩
abbrev q20_24:Ev.Lit:=⟨[(1,(.ptr 1 0))],[],2,[(q20_26 A B L W ya yf yl yw)]⟩
abbrev q20_25:Ev.Lit:=⟨[(0,(.agg [(.xl (ya) (A.length) 1 (cI A)),(.xl (yl) (L.length) 2 (cR L)),(.xl (yf) (B.length) 1 (cB B)),(.xl (yw) (W.length) 1 (cI W))]))],[],1,[]⟩
abbrev q20_30:=(boolAt (cB B) (gapF (cI A) (intAt (cI A) (0 * 1) + ((k + 1:Nat):Int)) A.length 0 * 1))
end
def dtK1:Code:=bodyC Try.f26
def dtK3:Code:=tlC dtK1
def dtc1K1:Code:=bodyC Try.f61
def dtc1K3:Code:=tlC dtc1K1
def dtc1K6:Code:=tlC dtc1K3
def dtc1K9:Code:=tlC dtc1K6
def dtc1K10:Code:=(hdC dtc1K6)
def dtc1K12:Code:=tlC dtc1K10
def dtc1K17:Code:=loopC dtc1K12
theorem dtc1_18 (ya yl yf yw:Value) (A:List Int) (L:PR) (B:List Bool) (W:List Int) (m:Nat) (hz:ZK A L B W) (hm:W.length=m + 1) (hi1:0≤(m + 1)) (hi2:True) (v:BaseW) (eb:EB) (ec:EC):Goes pg 117 dtc1K17 ((q20_15 A B L W ya yf yl yw)) (bw v 1 eb ec) (StepC pg 117 0 (fun i:{i:Nat // i≤(m + 1)∧True}=>Ev.fam0 (q20_15 A B L W ya yf yl yw) (fun i=>(q20_9 A B L W i ya yf yl yw)) i.1) (fun i:{i:Nat // i≤(m + 1)∧True}=>(m + 1) - i.1) dtc1K9 (bw v 1 eb ec) (q20_13 A B L eb ec m v) (⟨0,hi1,hi2⟩:{i:Nat // i≤(m + 1)∧True})):=by
 obtain ⟨hcl_A,hcl_L,hcl_B,hcl_W⟩:=hcZ20 A B L W
 obtain ⟨hn,ha,he,hl,hw⟩:=clE_zero hz
 have he2:=he
 unfold eqP degI at he2
 have hm91:m + 1≤91:=by have:=deg_bd hn ha he 0 (by omega); omega
 rcases bE (ltI 0 W.length) with Q8 | Q8
 ·skip
  have Q10:=lT Q8
  exact gL isN_e (gC cm (known_gp) 200 (T':=⟨[(1,(.ptr 1 0)),(4,(.slu 2 0 (0 + 1) 0)),(5,(.slu 3 0 (0 + 1) 0)),(6,(.v (.int .i64 (((0 + 1):Nat):Int))))],[],4,[(q20_26 A B L W ya yf yl yw),(2,(.row (cI (tI (loA (cI A) (cR L) 0) (0 + 1))) 2 1)),(3,(.row (cI (tI (hiA (cI A) (cR L) 0) (0 + 1))) 2 1))]⟩) (e:=.normal) (m:=6) (ps:=[ltI 0 W.length=true,inR .i64 (((0:Nat):Int) + 1)]) [.go,.go,.go,.go,.go,.b true,.go,.go,.go,.go,.go,.go,.go,.go,.go,.go,.go] [0,1,3,5] [(.ptr 1 0),(.slu 3 0 1 0),(.slu 5 0 1 0),(.v (.int .i64 (.ofNat 1)))] [(q20_27 A B L W ya yf yl yw),(.row [(.v (.int .i64 (.ofNat 0)))] 2 1),(.row [(.v (.int .i64 (.ofNat 200)))] 2 1)] (by kernel_rfl) (by kernel_rfl) ⟨Q8,(iRZ20 (by omega) (by omega)),trivial⟩ rfl rfl (by decide) rfl ⟨nr_ptr rfl,nr_slu rfl,nr_slu rfl,nr_int (show (1:Int)=(((0 + 1):Nat):Int) from by omega),trivial⟩ ⟨⟨by show 1 < 4; decide,nrb_cells (nrl_cons (nr_xl (nrl_plain (cI_plain A))) (nrl_cons (nr_xl (nrl_plain (cR_plain L))) (nrl_cons (nr_xl (nrl_plain (cB_plain B))) (nrl_cons (nr_xl (nrl_plain (cI_plain W))) (nrl_nil)))))⟩,⟨by show 2 < 4; decide,nrb_row (nrl_eq (show ((cI (tI (loA (cI A) (cR L) 0) (0 + 1))):List AV)=[(.v (.int .i64 (.ofNat 0)))] from by first | exact (tI_one _).symm | exact (tI_app _ _).symm) (cI_plain _))⟩,⟨by show 3 < 4; decide,nrb_row (nrl_eq (show ((cI (tI (hiA (cI A) (cR L) 0) (0 + 1))):List AV)=[(.v (.int .i64 (.ofNat 200)))] from by first | exact (tI_one _).symm | exact (tI_app _ _).symm) (cI_plain _))⟩,trivial⟩ (by show 1≤4; decide) (fun b hb=>(by have hb2:b < 1:=hb; match b,hb2 with | 0,_=>rfl))) (en_on (⟨0 + 1,by omega,trivial⟩) (by show (m + 1) - (0 + 1) < (m + 1) - 0; omega) rfl)
 ·skip
  have Q10:=lF Q8
  exfalso; omega
def dtc1K23:Code:=tlC dtc1K9
def dtc1K24:Code:=(hdC dtc1K9)
def dtc1K26:Code:=tlC dtc1K24
def dtc1K30:Code:=loopC dtc1K26
def dtc1K34:Code:=tlC dtc1K23
def dtc1K35:Code:=(hdC dtc1K23)
def dtc1K37:Code:=tlC dtc1K35
def dtc1K41:Code:=loopC dtc1K37
def dtc1K44:Code:=tlC dtc1K41
def dtc1K47:Code:=tlC dtc1K44
def dtc1K49:Code:=blkB (hdC dtc1K44)
def dtc1K51:Code:=tlC dtc1K49
def dtc1K55:Code:=loopC dtc1K51
theorem dtc1_58 (ya yl yf yw:Value) (A:List Int) (L:PR) (B:List Bool) (W:List Int) (m:Nat) (hz:ZK A L B W) (hm:W.length=m + 1) (h0rb:True) (Q0:(ltI (((m) + 1:Nat):Int) W.length)=false) (h2rb:True) (Q1:(ltI A.length A.length)=false) (r:Nat) (hr1:r≤(m + 1)) (hr2:True) (Q2:(ltI r ((m + 1:Nat):Int))=true) (Q4:(ltI (((m) + 1:Nat):Int) ((m + 1:Nat):Int))=false) (v:BaseW) (eb:EB) (ec:EC):Goes pg 117 dtc1K47 ((q20_5 A B L W m r ya yf yl yw)) (bw v 1 eb ec) (StepC pg 117 4 (fun r:{r:Nat // r≤(m + 1)∧True}=>⟨[(1,(.ptr 1 0)),(4,(.slu 2 0 (m + 1) 0)),(5,(.slu 3 0 (m + 1) 0)),(9,(.v (.int .i64 r.1)))],[],4,[(q20_26 A B L W ya yf yl yw),(2,(.row (cI (tI ((rdB (cI A) A.length (cR L) (cB B) (m + 1) r.1).1) (m + 1))) 2 1)),(3,(.row (cI (tI ((rdB (cI A) A.length (cR L) (cB B) (m + 1) r.1).2) (m + 1))) 2 1))]⟩) (fun r:{r:Nat // r≤(m + 1)∧True}=>(m + 1) - r.1) dtc1K34 (bw v 1 eb ec) (q20_13 A B L eb ec m v) (⟨r,hr1,hr2⟩:{r:Nat // r≤(m + 1)∧True})):=by
 obtain ⟨hcl_A,hcl_L,hcl_B,hcl_W⟩:=hcZ20 A B L W
 obtain ⟨hn,ha,he,hl,hw⟩:=clE_zero hz
 have he2:=he
 unfold eqP degI at he2
 have hm91:m + 1≤91:=by have:=deg_bd hn ha he 0 (by omega); omega
 have Q3:=lF Q0
 have Q5:=lF Q1
 have Q7:=lT Q2
 have Q9:=lF Q4
 exact gL isN_e (gT cm (known_gp) 200 (T':=⟨[(1,(.ptr 1 0)),(4,(.slu 2 0 (m + 1) 0)),(5,(.slu 3 0 (m + 1) 0)),(9,(.v (.int .i64 (((r + 1):Nat):Int))))],[],4,[(q20_26 A B L W ya yf yl yw),(2,(.row (cI (tI ((rdB (cI A) A.length (cR L) (cB B) (m + 1) (r + 1)).1) (m + 1))) 2 1)),(3,(.row (cI (tI ((rdB (cI A) A.length (cR L) (cB B) (m + 1) (r + 1)).2) (m + 1))) 2 1))]⟩) (e:=.normal) (ps:=[inR .i64 (((r:Nat):Int) + 1)]) [.go,.go,.go] (by kernel_rfl) (by kernel_rfl) ⟨(iRZ20 (by omega) (by omega)),trivial⟩ rfl) (en_on (⟨r + 1,by omega,trivial⟩) (by show (m + 1) - (r + 1) < (m + 1) - r; omega) rfl)
theorem dtc1_56 (ya yl yf yw:Value) (A:List Int) (L:PR) (B:List Bool) (W:List Int) (m:Nat) (hz:ZK A L B W) (hm:W.length=m + 1) (h0rb:True) (Q0:(ltI (((m) + 1:Nat):Int) W.length)=false) (h2rb:True) (Q1:(ltI A.length A.length)=false) (r:Nat) (hr1:r≤(m + 1)) (hr2:True) (Q2:(ltI r ((m + 1:Nat):Int))=true) (k:Nat) (hk1:k≤m) (hk2:True) (v:BaseW) (eb:EB) (ec:EC):Goes pg 117 dtc1K55 (⟨[(1,(.ptr 1 0)),(4,(.slu 2 0 (m + 1) 0)),(5,(.slu 3 0 (m + 1) 0)),(q20_36 r),(10,(.v (.int .i64 ((k + 1:Nat):Int))))],[],4,[(q20_26 A B L W ya yf yl yw),(2,(.row (cI (tI ((q20_34 A B L k m r).1) (m + 1))) 2 1)),(3,(.row (cI (tI ((q20_34 A B L k m r).2) (m + 1))) 2 1))]⟩) (bw v 1 eb ec) (StepL 117 6 (fun k:{k:Nat // k≤m∧True}=>⟨[(1,(.ptr 1 0)),(4,(.slu 2 0 (m + 1) 0)),(5,(.slu 3 0 (m + 1) 0)),(q20_36 r),(10,(.v (.int .i64 ((k.1 + 1:Nat):Int))))],[],4,[(q20_26 A B L W ya yf yl yw),(2,(.row (cI (tI ((swB (cI A) A.length (cB B) (q20_35 A B L m r) k.1).1) (m + 1))) 2 1)),(3,(.row (cI (tI ((swB (cI A) A.length (cB B) (q20_35 A B L m r) k.1).2) (m + 1))) 2 1))]⟩) (fun k:{k:Nat // k≤m∧True}=>m - k.1) (bw v 1 eb ec) (AfterB pg 117 5 dtc1K47 (bw v 1 eb ec) (StepC pg 117 4 (fun r:{r:Nat // r≤(m + 1)∧True}=>⟨[(1,(.ptr 1 0)),(4,(.slu 2 0 (m + 1) 0)),(5,(.slu 3 0 (m + 1) 0)),(9,(.v (.int .i64 r.1)))],[],4,[(q20_26 A B L W ya yf yl yw),(2,(.row (cI (tI ((rdB (cI A) A.length (cR L) (cB B) (m + 1) r.1).1) (m + 1))) 2 1)),(3,(.row (cI (tI ((rdB (cI A) A.length (cR L) (cB B) (m + 1) r.1).2) (m + 1))) 2 1))]⟩) (fun r:{r:Nat // r≤(m + 1)∧True}=>(m + 1) - r.1) dtc1K34 (bw v 1 eb ec) (q20_13 A B L eb ec m v) (⟨r,hr1,hr2⟩:{r:Nat // r≤(m + 1)∧True}))) (⟨k,hk1,hk2⟩:{k:Nat // k≤m∧True})):=by
 obtain ⟨hcl_A,hcl_L,hcl_B,hcl_W⟩:=hcZ20 A B L W
 obtain ⟨hn,ha,he,hl,hw⟩:=clE_zero hz
 have he2:=he
 unfold eqP degI at he2
 have hm91:m + 1≤91:=by have:=deg_bd hn ha he 0 (by omega); omega
 have Q3:=lF Q0
 have Q5:=lF Q1
 have Q7:=lT Q2
 rcases bE (ltI ((k + 1:Nat):Int) ((m + 1:Nat):Int)) with Q4 | Q4
 ·skip
  have Q9:=lT Q4
  have hgp:=gap_of (j:=k) hn ha he (by omega)
  have hd0:=deg_bd hn ha he 0 (by omega)
  rcases bE (q20_30 A B k) with Q6 | Q6
  ·skip
   have Q11:=Q6
   exact gL isN_e (gT cm (known_gp) 200 (T':=(q20_2 A B L W k m r ya yf yl yw)) (e:=.normal) (ps:=[ltI ((k + 1:Nat):Int) ((m + 1:Nat):Int)=true,inR .i64 (((k + 1:Nat):Int) - 1),0 < A.length,loadL pg (cI A) (0 * 1) 2=some (.v (.int .i64 (intAt (cI A) (0 * 1)))),inR .i64 (intAt (cI A) (0 * 1) + ((k + 1:Nat):Int)),IsLampK 1 2 1 1 (cI A) A.length (cR L) L.length (cB B) B.length (cI W) W.length,ZK A L B W,intAt (cI A) (0 * 1) < intAt (cI A) (0 * 1) + ((k + 1:Nat):Int),intAt (cI A) (0 * 1) + ((k + 1:Nat):Int)≤intAt (cI A) ((A.length - 1) * 1),gapF (cI A) (intAt (cI A) (0 * 1) + ((k + 1:Nat):Int)) A.length 0 < B.length,loadL pg (cB B) (gapF (cI A) (intAt (cI A) (0 * 1) + ((k + 1:Nat):Int)) A.length 0 * 1) 4=some (AV.v (Value.bool (q20_30 A B k))),boolAt (cB B) (gapF (cI A) (intAt (cI A) (0 * 1) + ((k + 1:Nat):Int)) A.length 0 * 1)=true,inR .i64 (((k + 1:Nat):Int) - 1),(0:Int)≤((k + 1:Nat):Int) - 1,(((k + 1:Nat):Int) - 1).toNat < m + 1,loadL pg (q20_29 A B L k m r) (0 + (((k + 1:Nat):Int) - 1).toNat * 1) 2=some (.v (.int .i64 (intAt (q20_29 A B L k m r) (0 + (((k + 1:Nat):Int) - 1).toNat * 1)))),k + 1 < m + 1,loadL pg (q20_29 A B L k m r) (0 + (k + 1) * 1) 2=some (.v (.int .i64 (intAt (q20_29 A B L k m r) (0 + (k + 1) * 1)))),(0:Int)≤((k + 1:Nat):Int) - 1,(((k + 1:Nat):Int) - 1).toNat < m + 1,0 + (((k + 1:Nat):Int) - 1).toNat * 1 + (AV.v (Value.int IntKind.i64 (if intAt (q20_29 A B L k m r) (0 + (k + 1) * 1) > intAt (q20_29 A B L k m r) (0 + (((k + 1:Nat):Int) - 1).toNat * 1) then intAt (q20_29 A B L k m r) (0 + (k + 1) * 1) else intAt (q20_29 A B L k m r) (0 + (((k + 1:Nat):Int) - 1).toNat * 1)))).cells.length≤(q20_29 A B L k m r).length,k + 1 < m + 1,loadL pg (q20_28 A B L k m r) (0 + (k + 1) * 1) 2=some (.v (.int .i64 (intAt (q20_28 A B L k m r) (0 + (k + 1) * 1)))),(0:Int)≤((k + 1:Nat):Int) - 1,(((k + 1:Nat):Int) - 1).toNat < m + 1,loadL pg (q20_28 A B L k m r) (0 + (((k + 1:Nat):Int) - 1).toNat * 1) 2=some (.v (.int .i64 (intAt (q20_28 A B L k m r) (0 + (((k + 1:Nat):Int) - 1).toNat * 1)))),k + 1 < m + 1,0 + (k + 1) * 1 + (AV.v (Value.int IntKind.i64 (if intAt (q20_28 A B L k m r) (0 + (((k + 1:Nat):Int) - 1).toNat * 1) < intAt (q20_28 A B L k m r) (0 + (k + 1) * 1) then intAt (q20_28 A B L k m r) (0 + (((k + 1:Nat):Int) - 1).toNat * 1) else intAt (q20_28 A B L k m r) (0 + (k + 1) * 1)))).cells.length≤(q20_28 A B L k m r).length,inR .i64 (((k + 1:Nat):Int) + 1)]) [.go,.go,.go,.go,.b true,.go,.go,.go,.go,.go,.go,.go,.go,.go,.go,.sym,.sym,.go,.go,.sym,.sym,.b true,.go,.go,.go,.go,.go,.go,.go,.go,.go,.nat,.sym,.go,.go,.sym,.sym,.go,.nat,.sym,.go,.go,.go,.go,.sym,.sym,.go,.go,.nat,.sym,.go,.sym,.sym,.go,.go,.go] (by kernel_rfl) (by kernel_rfl) ⟨Q4,(iRZ20 (by omega) (by omega)),(by omega),(cI_ld (by omega) 2 (u2) rfl),(iRZ20 (by omega) (by omega)),⟨rfl,rfl,rfl,rfl,A,L,B,W,rfl,rfl,rfl,rfl,rfl,rfl,rfl,rfl⟩,hz,(by omega),(by omega),(by omega),(cB_ld (by omega) 4 (Try.underlying4) rfl),Q6,(iRZ20 (by omega) (by omega)),(by omega),(by omega),(tI_ld (by omega) 2 (u2) rfl),(by omega),(tI_ld (by omega) 2 (u2) rfl),(by omega),(by omega),(by show _ + 1≤_; rw [cI_len,tI_len]; omega),(by omega),(tI_ld (by omega) 2 (u2) rfl),(by omega),(by omega),(tI_ld (by omega) 2 (u2) rfl),(by omega),(by show _ + 1≤_; rw [cI_len,tI_len]; omega),(iRZ20 (by omega) (by omega)),trivial⟩ rfl) (en_tn (⟨k + 1,by omega,trivial⟩) (by show m - (k + 1) < m - k; omega) (show ((q20_2 A B L W k m r ya yf yl yw):Ev.Lit)=(q20_4 A B L W k m r ya yf yl yw) from by have hz_:=congr (congrArg (fun (xq0:Ev.AB) (xq1:Ev.AB)=>(⟨[(1,(.ptr 1 0)),(4,(.slu 2 0 (m + 1) 0)),(5,(.slu 3 0 (m + 1) 0)),(q20_36 r),(10,(.v (.int .i64 (((k + 1) + 1:Nat):Int))))],[],4,[(q20_26 A B L W ya yf yl yw),(2,xq0),(3,xq1)]⟩:Ev.Lit)) (congrArg (fun z=>Ev.AB.row z 2 1) (show ((splice (q20_29 A B L k m r) (0 + (((k + 1:Nat):Int) - 1).toNat * 1) (AV.v (Value.int IntKind.i64 (if intAt (q20_29 A B L k m r) (0 + (k + 1) * 1) > intAt (q20_29 A B L k m r) (0 + (((k + 1:Nat):Int) - 1).toNat * 1) then intAt (q20_29 A B L k m r) (0 + (k + 1) * 1) else intAt (q20_29 A B L k m r) (0 + (((k + 1:Nat):Int) - 1).toNat * 1)))).cells):List Ev.AV)=(cI (tI ((q20_33 A B L k m r).1) (m + 1))) from by rw [sw_t1 (show faB (cI A) A.length (cB B) k=true from Q6)]; exact up_max k (k + 1) (by omega) (by omega) (by omega) (by omega) (by omega)))) (congrArg (fun z=>Ev.AB.row z 2 1) (show ((splice (q20_28 A B L k m r) (0 + (k + 1) * 1) (AV.v (Value.int IntKind.i64 (if intAt (q20_28 A B L k m r) (0 + (((k + 1:Nat):Int) - 1).toNat * 1) < intAt (q20_28 A B L k m r) (0 + (k + 1) * 1) then intAt (q20_28 A B L k m r) (0 + (((k + 1:Nat):Int) - 1).toNat * 1) else intAt (q20_28 A B L k m r) (0 + (k + 1) * 1)))).cells):List Ev.AV)=(cI (tI ((q20_33 A B L k m r).2) (m + 1))) from by rw [sw_t2 (show faB (cI A) A.length (cB B) k=true from Q6)]; exact up_min (k + 1) k (by omega) (by omega) (by omega) (by omega) (by omega))); exact hz_))
  ·skip
   have Q11:=Q6
   exact gL isN_e (gT cm (known_gp) 200 (T':=(q20_1 A B L W k m r ya yf yl yw)) (e:=.normal) (ps:=[ltI ((k + 1:Nat):Int) ((m + 1:Nat):Int)=true,inR .i64 (((k + 1:Nat):Int) - 1),0 < A.length,loadL pg (cI A) (0 * 1) 2=some (.v (.int .i64 (intAt (cI A) (0 * 1)))),inR .i64 (intAt (cI A) (0 * 1) + ((k + 1:Nat):Int)),IsLampK 1 2 1 1 (cI A) A.length (cR L) L.length (cB B) B.length (cI W) W.length,ZK A L B W,intAt (cI A) (0 * 1) < intAt (cI A) (0 * 1) + ((k + 1:Nat):Int),intAt (cI A) (0 * 1) + ((k + 1:Nat):Int)≤intAt (cI A) ((A.length - 1) * 1),gapF (cI A) (intAt (cI A) (0 * 1) + ((k + 1:Nat):Int)) A.length 0 < B.length,loadL pg (cB B) (gapF (cI A) (intAt (cI A) (0 * 1) + ((k + 1:Nat):Int)) A.length 0 * 1) 4=some (AV.v (Value.bool (q20_30 A B k))),boolAt (cB B) (gapF (cI A) (intAt (cI A) (0 * 1) + ((k + 1:Nat):Int)) A.length 0 * 1)=false,k + 1 < m + 1,loadL pg (q20_29 A B L k m r) (0 + (k + 1) * 1) 2=some (.v (.int .i64 (intAt (q20_29 A B L k m r) (0 + (k + 1) * 1)))),(0:Int)≤((k + 1:Nat):Int) - 1,(((k + 1:Nat):Int) - 1).toNat < m + 1,loadL pg (q20_29 A B L k m r) (0 + (((k + 1:Nat):Int) - 1).toNat * 1) 2=some (.v (.int .i64 (intAt (q20_29 A B L k m r) (0 + (((k + 1:Nat):Int) - 1).toNat * 1)))),k + 1 < m + 1,0 + (k + 1) * 1 + (AV.v (Value.int IntKind.i64 (if intAt (q20_29 A B L k m r) (0 + (((k + 1:Nat):Int) - 1).toNat * 1) > intAt (q20_29 A B L k m r) (0 + (k + 1) * 1) then intAt (q20_29 A B L k m r) (0 + (((k + 1:Nat):Int) - 1).toNat * 1) else intAt (q20_29 A B L k m r) (0 + (k + 1) * 1)))).cells.length≤(q20_29 A B L k m r).length,(0:Int)≤((k + 1:Nat):Int) - 1,(((k + 1:Nat):Int) - 1).toNat < m + 1,loadL pg (q20_28 A B L k m r) (0 + (((k + 1:Nat):Int) - 1).toNat * 1) 2=some (.v (.int .i64 (intAt (q20_28 A B L k m r) (0 + (((k + 1:Nat):Int) - 1).toNat * 1)))),k + 1 < m + 1,loadL pg (q20_28 A B L k m r) (0 + (k + 1) * 1) 2=some (.v (.int .i64 (intAt (q20_28 A B L k m r) (0 + (k + 1) * 1)))),(0:Int)≤((k + 1:Nat):Int) - 1,(((k + 1:Nat):Int) - 1).toNat < m + 1,0 + (((k + 1:Nat):Int) - 1).toNat * 1 + (AV.v (Value.int IntKind.i64 (if intAt (q20_28 A B L k m r) (0 + (k + 1) * 1) < intAt (q20_28 A B L k m r) (0 + (((k + 1:Nat):Int) - 1).toNat * 1) then intAt (q20_28 A B L k m r) (0 + (k + 1) * 1) else intAt (q20_28 A B L k m r) (0 + (((k + 1:Nat):Int) - 1).toNat * 1)))).cells.length≤(q20_28 A B L k m r).length,inR .i64 (((k + 1:Nat):Int) + 1)]) [.go,.go,.go,.go,.b true,.go,.go,.go,.go,.go,.go,.go,.go,.go,.go,.sym,.sym,.go,.go,.sym,.sym,.b false,.go,.go,.go,.go,.sym,.sym,.go,.go,.nat,.sym,.go,.sym,.sym,.go,.go,.go,.go,.nat,.sym,.go,.go,.sym,.sym,.go,.nat,.sym,.go,.go,.go] (by kernel_rfl) (by kernel_rfl) ⟨Q4,(iRZ20 (by omega) (by omega)),(by omega),(cI_ld (by omega) 2 (u2) rfl),(iRZ20 (by omega) (by omega)),⟨rfl,rfl,rfl,rfl,A,L,B,W,rfl,rfl,rfl,rfl,rfl,rfl,rfl,rfl⟩,hz,(by omega),(by omega),(by omega),(cB_ld (by omega) 4 (Try.underlying4) rfl),Q6,(by omega),(tI_ld (by omega) 2 (u2) rfl),(by omega),(by omega),(tI_ld (by omega) 2 (u2) rfl),(by omega),(by show _ + 1≤_; rw [cI_len,tI_len]; omega),(by omega),(by omega),(tI_ld (by omega) 2 (u2) rfl),(by omega),(tI_ld (by omega) 2 (u2) rfl),(by omega),(by omega),(by show _ + 1≤_; rw [cI_len,tI_len]; omega),(iRZ20 (by omega) (by omega)),trivial⟩ rfl) (en_tn (⟨k + 1,by omega,trivial⟩) (by show m - (k + 1) < m - k; omega) (show ((q20_1 A B L W k m r ya yf yl yw):Ev.Lit)=(q20_4 A B L W k m r ya yf yl yw) from by have hz_:=congr (congrArg (fun (xq0:Ev.AB) (xq1:Ev.AB)=>(⟨[(1,(.ptr 1 0)),(4,(.slu 2 0 (m + 1) 0)),(5,(.slu 3 0 (m + 1) 0)),(q20_36 r),(10,(.v (.int .i64 (((k + 1) + 1:Nat):Int))))],[],4,[(q20_26 A B L W ya yf yl yw),(2,xq0),(3,xq1)]⟩:Ev.Lit)) (congrArg (fun z=>Ev.AB.row z 2 1) (show ((splice (q20_29 A B L k m r) (0 + (k + 1) * 1) (AV.v (Value.int IntKind.i64 (if intAt (q20_29 A B L k m r) (0 + (((k + 1:Nat):Int) - 1).toNat * 1) > intAt (q20_29 A B L k m r) (0 + (k + 1) * 1) then intAt (q20_29 A B L k m r) (0 + (((k + 1:Nat):Int) - 1).toNat * 1) else intAt (q20_29 A B L k m r) (0 + (k + 1) * 1)))).cells):List Ev.AV)=(cI (tI ((q20_33 A B L k m r).1) (m + 1))) from by rw [sw_f1 (show faB (cI A) A.length (cB B) k=false from Q6)]; exact up_max (k + 1) k (by omega) (by omega) (by omega) (by omega) (by omega)))) (congrArg (fun z=>Ev.AB.row z 2 1) (show ((splice (q20_28 A B L k m r) (0 + (((k + 1:Nat):Int) - 1).toNat * 1) (AV.v (Value.int IntKind.i64 (if intAt (q20_28 A B L k m r) (0 + (k + 1) * 1) < intAt (q20_28 A B L k m r) (0 + (((k + 1:Nat):Int) - 1).toNat * 1) then intAt (q20_28 A B L k m r) (0 + (k + 1) * 1) else intAt (q20_28 A B L k m r) (0 + (((k + 1:Nat):Int) - 1).toNat * 1)))).cells):List Ev.AV)=(cI (tI ((q20_33 A B L k m r).2) (m + 1))) from by rw [sw_f2 (show faB (cI A) A.length (cB B) k=false from Q6)]; exact up_min k (k + 1) (by omega) (by omega) (by omega) (by omega) (by omega))); exact hz_))
 ·skip
  have Q9:=lF Q4
  obtain rfl:m=k:=by omega
  exact gL isX_e (gT cm (known_gp) 200 (T':=(q20_5 A B L W m r ya yf yl yw)) (e:=.exit 6) (ps:=[ltI (((m) + 1:Nat):Int) ((m + 1:Nat):Int)=false]) [.go,.go,.go,.go,.b false] (by kernel_rfl) (by kernel_rfl) ⟨Q4,trivial⟩ rfl) (en_tx (en_bn (dtc1_58 ya yl yf yw A L B W m hz hm h0rb Q0 h2rb Q1 r hr1 hr2 Q2 Q4 v eb ec)))
theorem dtc1_54 (ya yl yf yw:Value) (A:List Int) (L:PR) (B:List Bool) (W:List Int) (m:Nat) (hz:ZK A L B W) (hm:W.length=m + 1) (h0rb:True) (Q0:(ltI (((m) + 1:Nat):Int) W.length)=false) (h2rb:True) (Q1:(ltI A.length A.length)=false) (r:Nat) (hr1:r≤(m + 1)) (hr2:True) (Q2:(ltI r ((m + 1:Nat):Int))=true) (v:BaseW) (eb:EB) (ec:EC):Goes pg 117 dtc1K51 ((q20_6 A B L W m r ya yf yl yw)) (bw v 1 eb ec) (AfterB pg 117 5 dtc1K47 (bw v 1 eb ec) (StepC pg 117 4 (fun r:{r:Nat // r≤(m + 1)∧True}=>⟨[(1,(.ptr 1 0)),(4,(.slu 2 0 (m + 1) 0)),(5,(.slu 3 0 (m + 1) 0)),(9,(.v (.int .i64 r.1)))],[],4,[(q20_26 A B L W ya yf yl yw),(2,(.row (cI (tI ((rdB (cI A) A.length (cR L) (cB B) (m + 1) r.1).1) (m + 1))) 2 1)),(3,(.row (cI (tI ((rdB (cI A) A.length (cR L) (cB B) (m + 1) r.1).2) (m + 1))) 2 1))]⟩) (fun r:{r:Nat // r≤(m + 1)∧True}=>(m + 1) - r.1) dtc1K34 (bw v 1 eb ec) (q20_13 A B L eb ec m v) (⟨r,hr1,hr2⟩:{r:Nat // r≤(m + 1)∧True}))):=by
 obtain ⟨hcl_A,hcl_L,hcl_B,hcl_W⟩:=hcZ20 A B L W
 obtain ⟨hn,ha,he,hl,hw⟩:=clE_zero hz
 have he2:=he
 unfold eqP degI at he2
 have hm91:m + 1≤91:=by have:=deg_bd hn ha he 0 (by omega); omega
 have Q3:=lF Q0
 have Q5:=lF Q1
 have Q7:=lT Q2
 exact goes_loopL (id:=6) (by kernel_rfl) (by kernel_rfl) (fun k:{k:Nat // k≤m∧True}=>⟨[(1,(.ptr 1 0)),(4,(.slu 2 0 (m + 1) 0)),(5,(.slu 3 0 (m + 1) 0)),(q20_36 r),(10,(.v (.int .i64 ((k.1 + 1:Nat):Int))))],[],4,[(q20_26 A B L W ya yf yl yw),(2,(.row (cI (tI ((swB (cI A) A.length (cB B) (q20_35 A B L m r) k.1).1) (m + 1))) 2 1)),(3,(.row (cI (tI ((swB (cI A) A.length (cB B) (q20_35 A B L m r) k.1).2) (m + 1))) 2 1))]⟩) (fun k:{k:Nat // k≤m∧True}=>m - k.1) (fun i=>dtc1_56 ya yl yf yw A L B W m hz hm h0rb Q0 h2rb Q1 r hr1 hr2 Q2 i.1 i.2.1 i.2.2 v eb ec) ⟨0,Nat.zero_le _,trivial⟩
theorem dtc1_53 (ya yl yf yw:Value) (A:List Int) (L:PR) (B:List Bool) (W:List Int) (m:Nat) (hz:ZK A L B W) (hm:W.length=m + 1) (h0rb:True) (Q0:(ltI (((m) + 1:Nat):Int) W.length)=false) (h2rb:True) (Q1:(ltI A.length A.length)=false) (r:Nat) (hr1:r≤(m + 1)) (hr2:True) (Q2:(ltI r ((m + 1:Nat):Int))=true) (v:BaseW) (eb:EB) (ec:EC):Goes pg 117 dtc1K51 ((q20_6 A B L W m r ya yf yl yw)) (bw v 1 eb ec) (AfterB pg 117 5 dtc1K47 (bw v 1 eb ec) (StepC pg 117 4 (fun r:{r:Nat // r≤(m + 1)∧True}=>⟨[(1,(.ptr 1 0)),(4,(.slu 2 0 (m + 1) 0)),(5,(.slu 3 0 (m + 1) 0)),(9,(.v (.int .i64 r.1)))],[],4,[(q20_26 A B L W ya yf yl yw),(2,(.row (cI (tI ((rdB (cI A) A.length (cR L) (cB B) (m + 1) r.1).1) (m + 1))) 2 1)),(3,(.row (cI (tI ((rdB (cI A) A.length (cR L) (cB B) (m + 1) r.1).2) (m + 1))) 2 1))]⟩) (fun r:{r:Nat // r≤(m + 1)∧True}=>(m + 1) - r.1) dtc1K34 (bw v 1 eb ec) (q20_13 A B L eb ec m v) (⟨r,hr1,hr2⟩:{r:Nat // r≤(m + 1)∧True}))):=by
 exact dtc1_54 ya yl yf yw A L B W m hz hm h0rb Q0 h2rb Q1 r hr1 hr2 Q2 v eb ec
theorem dtc1_50 (ya yl yf yw:Value) (A:List Int) (L:PR) (B:List Bool) (W:List Int) (m:Nat) (hz:ZK A L B W) (hm:W.length=m + 1) (h0rb:True) (Q0:(ltI (((m) + 1:Nat):Int) W.length)=false) (h2rb:True) (Q1:(ltI A.length A.length)=false) (r:Nat) (hr1:r≤(m + 1)) (hr2:True) (Q2:(ltI r ((m + 1:Nat):Int))=true) (v:BaseW) (eb:EB) (ec:EC):Goes pg 117 dtc1K49 ((q20_7 A B L W m r ya yf yl yw)) (bw v 1 eb ec) (AfterB pg 117 5 dtc1K47 (bw v 1 eb ec) (StepC pg 117 4 (fun r:{r:Nat // r≤(m + 1)∧True}=>⟨[(1,(.ptr 1 0)),(4,(.slu 2 0 (m + 1) 0)),(5,(.slu 3 0 (m + 1) 0)),(9,(.v (.int .i64 r.1)))],[],4,[(q20_26 A B L W ya yf yl yw),(2,(.row (cI (tI ((rdB (cI A) A.length (cR L) (cB B) (m + 1) r.1).1) (m + 1))) 2 1)),(3,(.row (cI (tI ((rdB (cI A) A.length (cR L) (cB B) (m + 1) r.1).2) (m + 1))) 2 1))]⟩) (fun r:{r:Nat // r≤(m + 1)∧True}=>(m + 1) - r.1) dtc1K34 (bw v 1 eb ec) (q20_13 A B L eb ec m v) (⟨r,hr1,hr2⟩:{r:Nat // r≤(m + 1)∧True}))):=by
 obtain ⟨hcl_A,hcl_L,hcl_B,hcl_W⟩:=hcZ20 A B L W
 obtain ⟨hn,ha,he,hl,hw⟩:=clE_zero hz
 have he2:=he
 unfold eqP degI at he2
 have hm91:m + 1≤91:=by have:=deg_bd hn ha he 0 (by omega); omega
 have Q3:=lF Q0
 have Q5:=lF Q1
 have Q7:=lT Q2
 refine goes_seqA (by kernel_rfl) ?_
 exact gL isN_e (gT cm (known_gp) 200 (T':=(q20_6 A B L W m r ya yf yl yw)) (e:=.normal) (ps:=[]) [.go] (by kernel_rfl) (by kernel_rfl) trivial rfl) (en_n (dtc1_53 ya yl yf yw A L B W m hz hm h0rb Q0 h2rb Q1 r hr1 hr2 Q2 v eb ec))
theorem dtc1_48 (ya yl yf yw:Value) (A:List Int) (L:PR) (B:List Bool) (W:List Int) (m:Nat) (hz:ZK A L B W) (hm:W.length=m + 1) (h0rb:True) (Q0:(ltI (((m) + 1:Nat):Int) W.length)=false) (h2rb:True) (Q1:(ltI A.length A.length)=false) (r:Nat) (hr1:r≤(m + 1)) (hr2:True) (Q2:(ltI r ((m + 1:Nat):Int))=true) (v:BaseW) (eb:EB) (ec:EC):Goes pg 117 (hdC dtc1K44) ((q20_7 A B L W m r ya yf yl yw)) (bw v 1 eb ec) (AfterN pg 117 dtc1K47 (bw v 1 eb ec) (StepC pg 117 4 (fun r:{r:Nat // r≤(m + 1)∧True}=>⟨[(1,(.ptr 1 0)),(4,(.slu 2 0 (m + 1) 0)),(5,(.slu 3 0 (m + 1) 0)),(9,(.v (.int .i64 r.1)))],[],4,[(q20_26 A B L W ya yf yl yw),(2,(.row (cI (tI ((rdB (cI A) A.length (cR L) (cB B) (m + 1) r.1).1) (m + 1))) 2 1)),(3,(.row (cI (tI ((rdB (cI A) A.length (cR L) (cB B) (m + 1) r.1).2) (m + 1))) 2 1))]⟩) (fun r:{r:Nat // r≤(m + 1)∧True}=>(m + 1) - r.1) dtc1K34 (bw v 1 eb ec) (q20_13 A B L eb ec m v) (⟨r,hr1,hr2⟩:{r:Nat // r≤(m + 1)∧True}))):=by
 exact goes_blkA (id:=5) (by kernel_rfl) (by kernel_rfl) (dtc1_50 ya yl yf yw A L B W m hz hm h0rb Q0 h2rb Q1 r hr1 hr2 Q2 v eb ec)
theorem dtc1_46 (ya yl yf yw:Value) (A:List Int) (L:PR) (B:List Bool) (W:List Int) (m:Nat) (hz:ZK A L B W) (hm:W.length=m + 1) (h0rb:True) (Q0:(ltI (((m) + 1:Nat):Int) W.length)=false) (h2rb:True) (Q1:(ltI A.length A.length)=false) (r:Nat) (hr1:r≤(m + 1)) (hr2:True) (Q2:(ltI r ((m + 1:Nat):Int))=true) (v:BaseW) (eb:EB) (ec:EC):Goes pg 117 dtc1K44 ((q20_7 A B L W m r ya yf yl yw)) (bw v 1 eb ec) (StepC pg 117 4 (fun r:{r:Nat // r≤(m + 1)∧True}=>⟨[(1,(.ptr 1 0)),(4,(.slu 2 0 (m + 1) 0)),(5,(.slu 3 0 (m + 1) 0)),(9,(.v (.int .i64 r.1)))],[],4,[(q20_26 A B L W ya yf yl yw),(2,(.row (cI (tI ((rdB (cI A) A.length (cR L) (cB B) (m + 1) r.1).1) (m + 1))) 2 1)),(3,(.row (cI (tI ((rdB (cI A) A.length (cR L) (cB B) (m + 1) r.1).2) (m + 1))) 2 1))]⟩) (fun r:{r:Nat // r≤(m + 1)∧True}=>(m + 1) - r.1) dtc1K34 (bw v 1 eb ec) (q20_13 A B L eb ec m v) (⟨r,hr1,hr2⟩:{r:Nat // r≤(m + 1)∧True})):=by
 exact goes_seqA (by kernel_rfl) (dtc1_48 ya yl yf yw A L B W m hz hm h0rb Q0 h2rb Q1 r hr1 hr2 Q2 v eb ec)
theorem dtc1_60 (ya yl yf yw:Value) (A:List Int) (L:PR) (B:List Bool) (W:List Int) (m:Nat) (hz:ZK A L B W) (hm:W.length=m + 1) (h0rb:True) (Q0:(ltI (((m) + 1:Nat):Int) W.length)=false) (h2rb:True) (Q1:(ltI A.length A.length)=false) (h4rb:True) (Q2:(ltI (((m + 1):Nat):Int) ((m + 1:Nat):Int))=false) (v:BaseW) (eb:EB) (ec:EC):Goes pg 117 dtc1K34 ((q20_17 A B L m)) (bw v 1 eb ec) (q20_13 A B L eb ec m v):=by
 obtain ⟨hcl_A,hcl_L,hcl_B,hcl_W⟩:=hcZ20 A B L W
 obtain ⟨hn,ha,he,hl,hw⟩:=clE_zero hz
 have he2:=he
 unfold eqP degI at he2
 have hm91:m + 1≤91:=by have:=deg_bd hn ha he 0 (by omega); omega
 have Q3:=lF Q0
 have Q5:=lF Q1
 have Q7:=lF Q2
 exact gL isR_e (gT cm (known_gp) 200 (T':=(q20_18 A B L m)) (e:=.ret) (ps:=[]) [.go,.go,.go,.go] (by kernel_rfl) (by kernel_rfl) trivial rfl) (en_back (()) (show True from trivial) rfl)
theorem dtc1_43 (ya yl yf yw:Value) (A:List Int) (L:PR) (B:List Bool) (W:List Int) (m:Nat) (hz:ZK A L B W) (hm:W.length=m + 1) (h0rb:True) (Q0:(ltI (((m) + 1:Nat):Int) W.length)=false) (h2rb:True) (Q1:(ltI A.length A.length)=false) (r:Nat) (hr1:r≤(m + 1)) (hr2:True) (v:BaseW) (eb:EB) (ec:EC):Goes pg 117 dtc1K41 (⟨[(1,(.ptr 1 0)),(4,(.slu 2 0 (m + 1) 0)),(5,(.slu 3 0 (m + 1) 0)),(9,(.v (.int .i64 r)))],[],4,[(q20_26 A B L W ya yf yl yw),(2,(.row (cI (tI ((q20_35 A B L m r).1) (m + 1))) 2 1)),(3,(.row (cI (tI ((q20_35 A B L m r).2) (m + 1))) 2 1))]⟩) (bw v 1 eb ec) (StepC pg 117 4 (fun r:{r:Nat // r≤(m + 1)∧True}=>⟨[(1,(.ptr 1 0)),(4,(.slu 2 0 (m + 1) 0)),(5,(.slu 3 0 (m + 1) 0)),(9,(.v (.int .i64 r.1)))],[],4,[(q20_26 A B L W ya yf yl yw),(2,(.row (cI (tI ((rdB (cI A) A.length (cR L) (cB B) (m + 1) r.1).1) (m + 1))) 2 1)),(3,(.row (cI (tI ((rdB (cI A) A.length (cR L) (cB B) (m + 1) r.1).2) (m + 1))) 2 1))]⟩) (fun r:{r:Nat // r≤(m + 1)∧True}=>(m + 1) - r.1) dtc1K34 (bw v 1 eb ec) (q20_13 A B L eb ec m v) (⟨r,hr1,hr2⟩:{r:Nat // r≤(m + 1)∧True})):=by
 obtain ⟨hcl_A,hcl_L,hcl_B,hcl_W⟩:=hcZ20 A B L W
 obtain ⟨hn,ha,he,hl,hw⟩:=clE_zero hz
 have he2:=he
 unfold eqP degI at he2
 have hm91:m + 1≤91:=by have:=deg_bd hn ha he 0 (by omega); omega
 have Q3:=lF Q0
 have Q5:=lF Q1
 refine goes_seqA (by kernel_rfl) ?_
 rcases bE (ltI r ((m + 1:Nat):Int)) with Q2 | Q2
 ·skip
  have Q7:=lT Q2
  exact gL isN_e (gT cm (known_gp) 200 (T':=(q20_7 A B L W m r ya yf yl yw)) (e:=.normal) (ps:=[ltI r ((m + 1:Nat):Int)=true]) [.go,.go,.go,.go,.b true] (by kernel_rfl) (by kernel_rfl) ⟨Q2,trivial⟩ rfl) (en_n (dtc1_46 ya yl yf yw A L B W m hz hm h0rb Q0 h2rb Q1 r hr1 hr2 Q2 v eb ec))
 ·skip
  have Q7:=lF Q2
  obtain rfl:r=(m + 1):=by omega
  exact gL isX_e (gT cm (known_gp) 200 (T':=(q20_17 A B L m)) (e:=.exit 4) (ps:=[ltI (((m + 1):Nat):Int) ((m + 1:Nat):Int)=false]) [.go,.go,.go,.go,.b false] (by kernel_rfl) (by kernel_rfl) ⟨Q2,trivial⟩ rfl) (en_o (by intro h; cases h) (en_sx (dtc1_60 ya yl yf yw A L B W m hz hm h0rb Q0 h2rb Q1 hr2  Q2 v eb ec)))
theorem dtc1_40 (ya yl yf yw:Value) (A:List Int) (L:PR) (B:List Bool) (W:List Int) (m:Nat) (hz:ZK A L B W) (hm:W.length=m + 1) (h0rb:True) (Q0:(ltI (((m) + 1:Nat):Int) W.length)=false) (h2rb:True) (Q1:(ltI A.length A.length)=false) (v:BaseW) (eb:EB) (ec:EC):Goes pg 117 dtc1K37 ((q20_8 A B L W m ya yf yl yw)) (bw v 1 eb ec) (AfterN pg 117 dtc1K34 (bw v 1 eb ec) (q20_13 A B L eb ec m v)):=by
 obtain ⟨hcl_A,hcl_L,hcl_B,hcl_W⟩:=hcZ20 A B L W
 obtain ⟨hn,ha,he,hl,hw⟩:=clE_zero hz
 have he2:=he
 unfold eqP degI at he2
 have hm91:m + 1≤91:=by have:=deg_bd hn ha he 0 (by omega); omega
 have Q3:=lF Q0
 have Q5:=lF Q1
 exact goes_loopA (id:=4) (by kernel_rfl) (by kernel_rfl) (fun r:{r:Nat // r≤(m + 1)∧True}=>⟨[(1,(.ptr 1 0)),(4,(.slu 2 0 (m + 1) 0)),(5,(.slu 3 0 (m + 1) 0)),(9,(.v (.int .i64 r.1)))],[],4,[(q20_26 A B L W ya yf yl yw),(2,(.row (cI (tI ((rdB (cI A) A.length (cR L) (cB B) (m + 1) r.1).1) (m + 1))) 2 1)),(3,(.row (cI (tI ((rdB (cI A) A.length (cR L) (cB B) (m + 1) r.1).2) (m + 1))) 2 1))]⟩) (fun r:{r:Nat // r≤(m + 1)∧True}=>(m + 1) - r.1) (fun i=>dtc1_43 ya yl yf yw A L B W m hz hm h0rb Q0 h2rb Q1 i.1 i.2.1 i.2.2 v eb ec) ⟨0,Nat.zero_le _,trivial⟩
theorem dtc1_39 (ya yl yf yw:Value) (A:List Int) (L:PR) (B:List Bool) (W:List Int) (m:Nat) (hz:ZK A L B W) (hm:W.length=m + 1) (h0rb:True) (Q0:(ltI (((m) + 1:Nat):Int) W.length)=false) (h2rb:True) (Q1:(ltI A.length A.length)=false) (v:BaseW) (eb:EB) (ec:EC):Goes pg 117 dtc1K37 ((q20_8 A B L W m ya yf yl yw)) (bw v 1 eb ec) (AfterN pg 117 dtc1K34 (bw v 1 eb ec) (q20_13 A B L eb ec m v)):=by
 exact dtc1_40 ya yl yf yw A L B W m hz hm h0rb Q0 h2rb Q1 v eb ec
theorem dtc1_36 (ya yl yf yw:Value) (A:List Int) (L:PR) (B:List Bool) (W:List Int) (m:Nat) (hz:ZK A L B W) (hm:W.length=m + 1) (h0rb:True) (Q0:(ltI (((m) + 1:Nat):Int) W.length)=false) (h2rb:True) (Q1:(ltI A.length A.length)=false) (v:BaseW) (eb:EB) (ec:EC):Goes pg 117 dtc1K35 ((q20_11 A B L W m ya yf yl yw)) (bw v 1 eb ec) (AfterN pg 117 dtc1K34 (bw v 1 eb ec) (q20_13 A B L eb ec m v)):=by
 obtain ⟨hcl_A,hcl_L,hcl_B,hcl_W⟩:=hcZ20 A B L W
 obtain ⟨hn,ha,he,hl,hw⟩:=clE_zero hz
 have he2:=he
 unfold eqP degI at he2
 have hm91:m + 1≤91:=by have:=deg_bd hn ha he 0 (by omega); omega
 have Q3:=lF Q0
 have Q5:=lF Q1
 refine goes_seqA (by kernel_rfl) ?_
 exact gL isN_e (gT cm (known_gp) 200 (T':=(q20_8 A B L W m ya yf yl yw)) (e:=.normal) (ps:=[]) [.go] (by kernel_rfl) (by kernel_rfl) trivial rfl) (en_n (dtc1_39 ya yl yf yw A L B W m hz hm h0rb Q0 h2rb Q1 v eb ec))
theorem dtc1_33 (ya yl yf yw:Value) (A:List Int) (L:PR) (B:List Bool) (W:List Int) (m:Nat) (hz:ZK A L B W) (hm:W.length=m + 1) (h0rb:True) (Q0:(ltI (((m) + 1:Nat):Int) W.length)=false) (h2rb:True) (Q1:(ltI A.length A.length)=false) (v:BaseW) (eb:EB) (ec:EC):Goes pg 117 dtc1K23 ((q20_11 A B L W m ya yf yl yw)) (bw v 1 eb ec) (q20_13 A B L eb ec m v):=by
 exact goes_seqA (by kernel_rfl) (dtc1_36 ya yl yf yw A L B W m hz hm h0rb Q0 h2rb Q1 v eb ec)
theorem dtc1_31 (ya yl yf yw:Value) (A:List Int) (L:PR) (B:List Bool) (W:List Int) (m:Nat) (hz:ZK A L B W) (hm:W.length=m + 1) (h0rb:True) (Q0:(ltI (((m) + 1:Nat):Int) W.length)=false) (j:Nat) (hj1:j≤A.length) (hj2:True) (v:BaseW) (eb:EB) (ec:EC):Goes pg 117 dtc1K30 (⟨[(1,(.ptr 1 0)),(4,(.slu 2 0 (m + 1) 0)),(5,(.slu 3 0 (m + 1) 0)),(7,(.v (.int .i64 j)))],[],4,[(q20_26 A B L W ya yf yl yw),(2,(.row (cI (tI (loA (cI A) (cR L) j) (m + 1))) 2 1)),(3,(.row (cI (tI (hiA (cI A) (cR L) j) (m + 1))) 2 1))]⟩) (bw v 1 eb ec) (StepC pg 117 2 (fun j:{j:Nat // j≤A.length∧True}=>⟨[(1,(.ptr 1 0)),(4,(.slu 2 0 (m + 1) 0)),(5,(.slu 3 0 (m + 1) 0)),(7,(.v (.int .i64 j.1)))],[],4,[(q20_26 A B L W ya yf yl yw),(2,(.row (cI (tI (loA (cI A) (cR L) j.1) (m + 1))) 2 1)),(3,(.row (cI (tI (hiA (cI A) (cR L) j.1) (m + 1))) 2 1))]⟩) (fun j:{j:Nat // j≤A.length∧True}=>A.length - j.1) dtc1K23 (bw v 1 eb ec) (q20_13 A B L eb ec m v) (⟨j,hj1,hj2⟩:{j:Nat // j≤A.length∧True})):=by
 obtain ⟨hcl_A,hcl_L,hcl_B,hcl_W⟩:=hcZ20 A B L W
 obtain ⟨hn,ha,he,hl,hw⟩:=clE_zero hz
 have he2:=he
 unfold eqP degI at he2
 have hm91:m + 1≤91:=by have:=deg_bd hn ha he 0 (by omega); omega
 have Q3:=lF Q0
 rcases bE (ltI j A.length) with Q1 | Q1
 ·skip
  have Q5:=lT Q1
  have hd:=deg_bd hn ha he j (by omega)
  exact gL isN_e (gT cm (known_gp) 200 (T':=(q20_3 A B L W j m ya yf yl yw)) (e:=.normal) (ps:=[ltI j A.length=true,j < A.length,loadL pg (cI A) (j * 1) 2=some (.v (.int .i64 (intAt (cI A) (j * 1)))),0 < A.length,loadL pg (cI A) (0 * 1) 2=some (.v (.int .i64 (intAt (cI A) (0 * 1)))),inR .i64 (intAt (cI A) (j * 1) - intAt (cI A) (0 * 1)),j < L.length,j * 2 + 0 < (cR L).length,loadL pg (cR L) (j * 2 + 0) 2=some (.v (.int .i64 (intAt (cR L) (j * 2 + 0)))),j < L.length,j * 2 + 1 < (cR L).length,loadL pg (cR L) (j * 2 + 1) 2=some (.v (.int .i64 (intAt (cR L) (j * 2 + 1)))),0≤intAt (cI A) (j * 1) - intAt (cI A) (0 * 1),(intAt (cI A) (j * 1) - intAt (cI A) (0 * 1)).toNat < m + 1,0 + (intAt (cI A) (j * 1) - intAt (cI A) (0 * 1)).toNat * 1 + (AV.v (Value.int IntKind.i64 (intAt (cR L) (j * 2 + 0)))).cells.length≤(cI (tI (loA (cI A) (cR L) j) (m + 1))).length,0≤intAt (cI A) (j * 1) - intAt (cI A) (0 * 1),(intAt (cI A) (j * 1) - intAt (cI A) (0 * 1)).toNat < m + 1,0 + (intAt (cI A) (j * 1) - intAt (cI A) (0 * 1)).toNat * 1 + (AV.v (Value.int IntKind.i64 (intAt (cR L) (j * 2 + 1)))).cells.length≤(cI (tI (hiA (cI A) (cR L) j) (m + 1))).length,inR .i64 (((j:Nat):Int) + 1)]) [.go,.go,.go,.go,.go,.b true,.go,.go,.go,.sym,.sym,.go,.go,.sym,.sym,.go,.go,.go,.go,.go,.go,.go,.go,.go,.sym,.sym,.sym,.go,.go,.go,.sym,.sym,.sym,.nat,.sym,.nat,.sym,.go,.go,.go] (by kernel_rfl) (by kernel_rfl) ⟨Q1,(by omega),(cI_ld (by omega) 2 (u2) rfl),(by omega),(cI_ld (by omega) 2 (u2) rfl),(iRZ20 (by omega) (by omega)),(by omega),(by omega),(cR_ld (by omega) 2 (u2) rfl),(by omega),(by omega),(cR_ld (by omega) 2 (u2) rfl),(by omega),(by omega),(by show _ + 1≤_; rw [cI_len,tI_len]; omega),(by omega),(by omega),(by show _ + 1≤_; rw [cI_len,tI_len]; omega),(iRZ20 (by omega) (by omega)),trivial⟩ rfl) (en_on (⟨j + 1,by omega,trivial⟩) (by show A.length - (j + 1) < A.length - j; omega) (show ((q20_3 A B L W j m ya yf yl yw):Ev.Lit)=⟨[(1,(.ptr 1 0)),(4,(.slu 2 0 (m + 1) 0)),(5,(.slu 3 0 (m + 1) 0)),(7,(.v (.int .i64 (((j + 1):Nat):Int))))],[],4,[(q20_26 A B L W ya yf yl yw),(2,(.row (cI (tI (loA (cI A) (cR L) (j + 1)) (m + 1))) 2 1)),(3,(.row (cI (tI (hiA (cI A) (cR L) (j + 1)) (m + 1))) 2 1))]⟩ from by have hz_:=congr (congrArg (fun (xq0:Ev.AB) (xq1:Ev.AB)=>(⟨[(1,(.ptr 1 0)),(4,(.slu 2 0 (m + 1) 0)),(5,(.slu 3 0 (m + 1) 0)),(7,(.v (.int .i64 (((j + 1):Nat):Int))))],[],4,[(q20_26 A B L W ya yf yl yw),(2,xq0),(3,xq1)]⟩:Ev.Lit)) (congrArg (fun z=>Ev.AB.row z 2 1) (show ((splice (cI (tI (loA (cI A) (cR L) j) (m + 1))) (0 + (intAt (cI A) (j * 1) - intAt (cI A) (0 * 1)).toNat * 1) (AV.v (Value.int IntKind.i64 (intAt (cR L) (j * 2 + 0)))).cells):List Ev.AV)=(cI (tI (loA (cI A) (cR L) (j + 1)) (m + 1))) from by exact up_at (degA (cI A) j).toNat _ (by unfold degA; omega) (by unfold degA; omega)))) (congrArg (fun z=>Ev.AB.row z 2 1) (show ((splice (cI (tI (hiA (cI A) (cR L) j) (m + 1))) (0 + (intAt (cI A) (j * 1) - intAt (cI A) (0 * 1)).toNat * 1) (AV.v (Value.int IntKind.i64 (intAt (cR L) (j * 2 + 1)))).cells):List Ev.AV)=(cI (tI (hiA (cI A) (cR L) (j + 1)) (m + 1))) from by exact up_at (degA (cI A) j).toNat _ (by unfold degA; omega) (by unfold degA; omega))); exact hz_))
 ·skip
  have Q5:=lF Q1
  obtain rfl:j=A.length:=by omega
  exact gL isX_e (gT cm (known_gp) 200 (T':=(q20_11 A B L W m ya yf yl yw)) (e:=.exit 2) (ps:=[ltI A.length A.length=false]) [.go,.go,.go,.go,.go,.b false] (by kernel_rfl) (by kernel_rfl) ⟨Q1,trivial⟩ rfl) (en_sx (dtc1_33 ya yl yf yw A L B W m hz hm h0rb Q0 hj2  Q1 v eb ec))
theorem dtc1_29 (ya yl yf yw:Value) (A:List Int) (L:PR) (B:List Bool) (W:List Int) (m:Nat) (hz:ZK A L B W) (hm:W.length=m + 1) (h0rb:True) (Q0:(ltI (((m) + 1:Nat):Int) W.length)=false) (v:BaseW) (eb:EB) (ec:EC):Goes pg 117 dtc1K26 ((q20_10 A B L W m ya yf yl yw)) (bw v 1 eb ec) (AfterN pg 117 dtc1K23 (bw v 1 eb ec) (q20_13 A B L eb ec m v)):=by
 obtain ⟨hcl_A,hcl_L,hcl_B,hcl_W⟩:=hcZ20 A B L W
 obtain ⟨hn,ha,he,hl,hw⟩:=clE_zero hz
 have he2:=he
 unfold eqP degI at he2
 have hm91:m + 1≤91:=by have:=deg_bd hn ha he 0 (by omega); omega
 have Q3:=lF Q0
 exact goes_loopA (id:=2) (by kernel_rfl) (by kernel_rfl) (fun j:{j:Nat // j≤A.length∧True}=>⟨[(1,(.ptr 1 0)),(4,(.slu 2 0 (m + 1) 0)),(5,(.slu 3 0 (m + 1) 0)),(7,(.v (.int .i64 j.1)))],[],4,[(q20_26 A B L W ya yf yl yw),(2,(.row (cI (tI (loA (cI A) (cR L) j.1) (m + 1))) 2 1)),(3,(.row (cI (tI (hiA (cI A) (cR L) j.1) (m + 1))) 2 1))]⟩) (fun j:{j:Nat // j≤A.length∧True}=>A.length - j.1) (fun i=>dtc1_31 ya yl yf yw A L B W m hz hm h0rb Q0 i.1 i.2.1 i.2.2 v eb ec) ⟨0,Nat.zero_le _,trivial⟩
theorem dtc1_28 (ya yl yf yw:Value) (A:List Int) (L:PR) (B:List Bool) (W:List Int) (m:Nat) (hz:ZK A L B W) (hm:W.length=m + 1) (h0rb:True) (Q0:(ltI (((m) + 1:Nat):Int) W.length)=false) (v:BaseW) (eb:EB) (ec:EC):Goes pg 117 dtc1K26 ((q20_10 A B L W m ya yf yl yw)) (bw v 1 eb ec) (AfterN pg 117 dtc1K23 (bw v 1 eb ec) (q20_13 A B L eb ec m v)):=by
 exact dtc1_29 ya yl yf yw A L B W m hz hm h0rb Q0 v eb ec
theorem dtc1_25 (ya yl yf yw:Value) (A:List Int) (L:PR) (B:List Bool) (W:List Int) (m:Nat) (hz:ZK A L B W) (hm:W.length=m + 1) (h0rb:True) (Q0:(ltI (((m) + 1:Nat):Int) W.length)=false) (v:BaseW) (eb:EB) (ec:EC):Goes pg 117 dtc1K24 ((q20_12 A B L W m ya yf yl yw)) (bw v 1 eb ec) (AfterN pg 117 dtc1K23 (bw v 1 eb ec) (q20_13 A B L eb ec m v)):=by
 obtain ⟨hcl_A,hcl_L,hcl_B,hcl_W⟩:=hcZ20 A B L W
 obtain ⟨hn,ha,he,hl,hw⟩:=clE_zero hz
 have he2:=he
 unfold eqP degI at he2
 have hm91:m + 1≤91:=by have:=deg_bd hn ha he 0 (by omega); omega
 have Q3:=lF Q0
 refine goes_seqA (by kernel_rfl) ?_
 exact gL isN_e (gT cm (known_gp) 200 (T':=(q20_10 A B L W m ya yf yl yw)) (e:=.normal) (ps:=[]) [.go] (by kernel_rfl) (by kernel_rfl) trivial rfl) (en_n (dtc1_28 ya yl yf yw A L B W m hz hm h0rb Q0 v eb ec))
theorem dtc1_22 (ya yl yf yw:Value) (A:List Int) (L:PR) (B:List Bool) (W:List Int) (m:Nat) (hz:ZK A L B W) (hm:W.length=m + 1) (h0rb:True) (Q0:(ltI (((m) + 1:Nat):Int) W.length)=false) (v:BaseW) (eb:EB) (ec:EC):Goes pg 117 dtc1K9 ((q20_12 A B L W m ya yf yl yw)) (bw v 1 eb ec) (q20_13 A B L eb ec m v):=by
 exact goes_seqA (by kernel_rfl) (dtc1_25 ya yl yf yw A L B W m hz hm h0rb Q0 v eb ec)
theorem dtc1_20 (ya yl yf yw:Value) (A:List Int) (L:PR) (B:List Bool) (W:List Int) (m:Nat) (hz:ZK A L B W) (hm:W.length=m + 1) (i:Nat) (hi1:(i + 1)≤(m + 1)) (hi2:True) (v:BaseW) (eb:EB) (ec:EC):Goes pg 117 dtc1K17 ((q20_9 A B L W i ya yf yl yw)) (bw v 1 eb ec) (StepC pg 117 0 (fun i:{i:Nat // i≤(m + 1)∧True}=>Ev.fam0 (q20_15 A B L W ya yf yl yw) (fun i=>(q20_9 A B L W i ya yf yl yw)) i.1) (fun i:{i:Nat // i≤(m + 1)∧True}=>(m + 1) - i.1) dtc1K9 (bw v 1 eb ec) (q20_13 A B L eb ec m v) (⟨(i + 1),hi1,hi2⟩:{i:Nat // i≤(m + 1)∧True})):=by
 obtain ⟨hcl_A,hcl_L,hcl_B,hcl_W⟩:=hcZ20 A B L W
 obtain ⟨hn,ha,he,hl,hw⟩:=clE_zero hz
 have he2:=he
 unfold eqP degI at he2
 have hm91:m + 1≤91:=by have:=deg_bd hn ha he 0 (by omega); omega
 rcases bE (ltI ((i + 1:Nat):Int) W.length) with Q0 | Q0
 ·skip
  have Q3:=lT Q0
  exact gL isN_e (gC cm (known_gp) 200 (T':=⟨[(1,(.ptr 1 0)),(4,(.slu 2 0 ((i + 1) + 1) 0)),(5,(.slu 3 0 ((i + 1) + 1) 0)),(6,(.v (.int .i64 ((((i + 1) + 1):Nat):Int))))],[],4,[(q20_26 A B L W ya yf yl yw),(2,(.row (cI (tI (loA (cI A) (cR L) 0) ((i + 1) + 1))) 2 1)),(3,(.row (cI (tI (hiA (cI A) (cR L) 0) ((i + 1) + 1))) 2 1))]⟩) (e:=.normal) (m:=8) (ps:=[ltI ((i + 1:Nat):Int) W.length=true,(cI (tI (loA (cI A) (cR L) 0) (i + 1))).length=(i + 1) * 1,i + 1 + 1≤1000000,(cI (tI (hiA (cI A) (cR L) 0) (i + 1))).length=(i + 1) * 1,i + 1 + 1≤1000000,inR .i64 (((i + 1:Nat):Int) + 1)]) [.go,.go,.go,.go,.go,.b true,.go,.go,.sym,.go,.go,.sym,.go,.go,.go,.go,.go] [0,1,5,7] [(.ptr 1 0),(.slu 5 0 (i + 1 + 1) 0),(.slu 7 0 (i + 1 + 1) 0),(.v (.int .i64 (((i + 1:Nat):Int) + 1)))] [(q20_27 A B L W ya yf yl yw),(.row (q20_22 A L i) 2 1),(.row (q20_21 A L i) 2 1)] (by kernel_rfl) (by kernel_rfl) ⟨Q0,(by rw [cI_len,tI_len]; omega),(by omega),(by rw [cI_len,tI_len]; omega),(by omega),(iRZ20 (by omega) (by omega)),trivial⟩ rfl rfl (by decide) rfl ⟨nr_ptr rfl,nr_slu rfl,nr_slu rfl,nr_int (show ((((i + 1:Nat):Int) + 1):Int)=((((i + 1) + 1):Nat):Int) from by omega),trivial⟩ ⟨⟨by show 1 < 4; decide,nrb_cells (nrl_cons (nr_xl (nrl_plain (cI_plain A))) (nrl_cons (nr_xl (nrl_plain (cR_plain L))) (nrl_cons (nr_xl (nrl_plain (cB_plain B))) (nrl_cons (nr_xl (nrl_plain (cI_plain W))) (nrl_nil)))))⟩,⟨by show 2 < 4; decide,nrb_row (nrl_eq (show ((cI (tI (loA (cI A) (cR L) 0) ((i + 1) + 1))):List AV)=(q20_22 A L i) from by first | exact (tI_one _).symm | exact (tI_app _ _).symm) (cI_plain _))⟩,⟨by show 3 < 4; decide,nrb_row (nrl_eq (show ((cI (tI (hiA (cI A) (cR L) 0) ((i + 1) + 1))):List AV)=(q20_21 A L i) from by first | exact (tI_one _).symm | exact (tI_app _ _).symm) (cI_plain _))⟩,trivial⟩ (by show 1≤4; decide) (fun b hb=>(by have hb2:b < 1:=hb; match b,hb2 with | 0,_=>rfl))) (en_on (⟨(i + 1) + 1,by omega,trivial⟩) (by show (m + 1) - ((i + 1) + 1) < (m + 1) - (i + 1); omega) rfl)
 ·skip
  have Q3:=lF Q0
  obtain rfl:m=i:=by omega
  exact gL isX_e (gT cm (known_gp) 200 (T':=(q20_12 A B L W m ya yf yl yw)) (e:=.exit 0) (ps:=[ltI (((m) + 1:Nat):Int) W.length=false]) [.go,.go,.go,.go,.go,.b false] (by kernel_rfl) (by kernel_rfl) ⟨Q0,trivial⟩ rfl) (en_sx (dtc1_22 ya yl yf yw A L B W m hz hm hi2  Q0 v eb ec))
theorem dtc1_16 (ya yl yf yw:Value) (A:List Int) (L:PR) (B:List Bool) (W:List Int) (m:Nat) (hz:ZK A L B W) (hm:W.length=m + 1) (v:BaseW) (eb:EB) (ec:EC):Goes pg 117 dtc1K12 ((q20_16 A B L W ya yf yl yw)) (bw v 1 eb ec) (AfterN pg 117 dtc1K9 (bw v 1 eb ec) (q20_13 A B L eb ec m v)):=by
 obtain ⟨hcl_A,hcl_L,hcl_B,hcl_W⟩:=hcZ20 A B L W
 obtain ⟨hn,ha,he,hl,hw⟩:=clE_zero hz
 have he2:=he
 unfold eqP degI at he2
 have hm91:m + 1≤91:=by have:=deg_bd hn ha he 0 (by omega); omega
 exact goes_loopA (id:=0) (by kernel_rfl) (by kernel_rfl) (fun i:{i:Nat // i≤(m + 1)∧True}=>Ev.fam0 (q20_15 A B L W ya yf yl yw) (fun i=>(q20_9 A B L W i ya yf yl yw)) i.1) (fun i:{i:Nat // i≤(m + 1)∧True}=>(m + 1) - i.1) (fun i=>match i with | ⟨0,h1,h2⟩=>dtc1_18 ya yl yf yw A L B W m hz hm h1 h2 v eb ec | ⟨j + 1,h1,h2⟩=>dtc1_20 ya yl yf yw A L B W m hz hm j h1 h2 v eb ec) ⟨0,Nat.zero_le _,trivial⟩
theorem dtc1_14 (ya yl yf yw:Value) (A:List Int) (L:PR) (B:List Bool) (W:List Int) (m:Nat) (hz:ZK A L B W) (hm:W.length=m + 1) (v:BaseW) (eb:EB) (ec:EC):Goes pg 117 dtc1K12 ((q20_16 A B L W ya yf yl yw)) (bw v 1 eb ec) (AfterN pg 117 dtc1K9 (bw v 1 eb ec) (q20_13 A B L eb ec m v)):=by
 exact dtc1_16 ya yl yf yw A L B W m hz hm v eb ec
theorem dtc1_11 (ya yl yf yw:Value) (A:List Int) (L:PR) (B:List Bool) (W:List Int) (m:Nat) (hz:ZK A L B W) (hm:W.length=m + 1) (v:BaseW) (eb:EB) (ec:EC):Goes pg 117 dtc1K10 ((q20_20 A B L W ya yf yl yw)) (bw v 1 eb ec) (AfterN pg 117 dtc1K9 (bw v 1 eb ec) (q20_13 A B L eb ec m v)):=by
 obtain ⟨hcl_A,hcl_L,hcl_B,hcl_W⟩:=hcZ20 A B L W
 obtain ⟨hn,ha,he,hl,hw⟩:=clE_zero hz
 have he2:=he
 unfold eqP degI at he2
 have hm91:m + 1≤91:=by have:=deg_bd hn ha he 0 (by omega); omega
 refine goes_seqA (by kernel_rfl) ?_
 exact gL isN_e (gT cm (known_gp) 200 (T':=(q20_16 A B L W ya yf yl yw)) (e:=.normal) (ps:=[]) [.go] (by kernel_rfl) (by kernel_rfl) trivial rfl) (en_n (dtc1_14 ya yl yf yw A L B W m hz hm v eb ec))
theorem dtc1_8 (ya yl yf yw:Value) (A:List Int) (L:PR) (B:List Bool) (W:List Int) (m:Nat) (hz:ZK A L B W) (hm:W.length=m + 1) (v:BaseW) (eb:EB) (ec:EC):Goes pg 117 dtc1K6 ((q20_20 A B L W ya yf yl yw)) (bw v 1 eb ec) (q20_13 A B L eb ec m v):=by
 exact goes_seqA (by kernel_rfl) (dtc1_11 ya yl yf yw A L B W m hz hm v eb ec)
theorem dtc1_5 (ya yl yf yw:Value) (A:List Int) (L:PR) (B:List Bool) (W:List Int) (m:Nat) (hz:ZK A L B W) (hm:W.length=m + 1) (v:BaseW) (eb:EB) (ec:EC):Goes pg 117 dtc1K3 ((q20_24 A B L W ya yf yl yw)) (bw v 1 eb ec) (q20_13 A B L eb ec m v):=by
 obtain ⟨hcl_A,hcl_L,hcl_B,hcl_W⟩:=hcZ20 A B L W
 obtain ⟨hn,ha,he,hl,hw⟩:=clE_zero hz
 have he2:=he
 unfold eqP degI at he2
 have hm91:m + 1≤91:=by have:=deg_bd hn ha he 0 (by omega); omega
 refine goes_seqA (by kernel_rfl) ?_
 exact gL isN_e (gT cm (known_gp) 200 (T':=(q20_20 A B L W ya yf yl yw)) (e:=.normal) (ps:=[]) [.go,.go] (by kernel_rfl) (by kernel_rfl) trivial rfl) (en_n (dtc1_8 ya yl yf yw A L B W m hz hm v eb ec))
theorem dtc1_2 (ya yl yf yw:Value) (A:List Int) (L:PR) (B:List Bool) (W:List Int) (m:Nat) (hz:ZK A L B W) (hm:W.length=m + 1) (v:BaseW) (eb:EB) (ec:EC):Goes pg 117 dtc1K1 ((q20_25 A B L W ya yf yl yw)) (bw v 1 eb ec) (q20_13 A B L eb ec m v):=by
 obtain ⟨hcl_A,hcl_L,hcl_B,hcl_W⟩:=hcZ20 A B L W
 obtain ⟨hn,ha,he,hl,hw⟩:=clE_zero hz
 have he2:=he
 unfold eqP degI at he2
 have hm91:m + 1≤91:=by have:=deg_bd hn ha he 0 (by omega); omega
 refine goes_seqA (by kernel_rfl) ?_
 exact gL isN_e (gT cm (known_gp) 200 (T':=(q20_24 A B L W ya yf yl yw)) (e:=.normal) (ps:=[]) [.go,.go,.go] (by kernel_rfl) (by kernel_rfl) trivial rfl) (en_n (dtc1_5 ya yl yf yw A L B W m hz hm v eb ec))
def dtK5:Code:=tlC dtK3
def dtK7:Code:=loopC (tlC (hdC dtK5))
def dtK8:Code:=tlC dtK5
theorem dt_9 (ya yl yf yw:Value) (A:List Int) (L:PR) (B:List Bool) (W:List Int) (m:Nat) (hz:ZK A L B W) (hm:W.length=m + 1) (q0:Nat) (h0a:q0≤(m + 1)) (h0b:∀ x,x < q0→¬ (rdB (cI A) A.length (cR L) (cB B) (m + 1) (m + 1)).2 x < (rdB (cI A) A.length (cR L) (cB B) (m + 1) (m + 1)).1 x) (h0c:(m + 1)≤q0) (w:World):Goes pg 26 dtK8 (⟨[],[],4,[]⟩) w (OutR pg Try.f26 26 (.bool (clB (dtd (cI A) A.length (cR L) (cB B) (m + 1)))) w):=by
 obtain ⟨hcl_A,hcl_L,hcl_B,hcl_W⟩:=hcZ20 A B L W
 obtain ⟨hn,ha,he,hl,hw⟩:=clE_zero hz
 have he2:=he
 unfold eqP degI at he2
 have hm91:m + 1≤91:=by have:=deg_bd hn ha he 0 (by omega); omega
 exact goes_eqR (r:=(.bool .false)) (by rw [clB_no (show ¬ dtd (cI A) A.length (cR L) (cB B) (m + 1) from fun ⟨x,hx,hl⟩=>h0b x (by omega) hl)]) (goes_out cm (known_gp) 200 (v:=(.v (.bool .false))) (ps:=[]) [.go] (by kernel_rfl) (by kernel_rfl) trivial rfl)
theorem dt_6 (ya yl yf yw:Value) (A:List Int) (L:PR) (B:List Bool) (W:List Int) (m:Nat) (hz:ZK A L B W) (hm:W.length=m + 1) (w:World):Goes pg 26 dtK5 ((q20_19 A B L m)) w (OutR pg Try.f26 26 (.bool (clB (dtd (cI A) A.length (cR L) (cB B) (m + 1)))) w):=by
 obtain ⟨hcl_A,hcl_L,hcl_B,hcl_W⟩:=hcZ20 A B L W
 obtain ⟨hn,ha,he,hl,hw⟩:=clE_zero hz
 have he2:=he
 unfold eqP degI at he2
 have hm91:m + 1≤91:=by have:=deg_bd hn ha he 0 (by omega); omega
 refine goes_spineQ (ι:={q:Nat // q≤(m + 1)∧∀ x,x < q→¬ (rdB (cI A) A.length (cR L) (cB B) (m + 1) (m + 1)).2 x < (rdB (cI A) A.length (cR L) (cB B) (m + 1) (m + 1)).1 x}) (T:=(fun q:{q:Nat // q≤(m + 1)∧∀ x,x < q→¬ (rdB (cI A) A.length (cR L) (cB B) (m + 1) (m + 1)).2 x < (rdB (cI A) A.length (cR L) (cB B) (m + 1) (m + 1)).1 x}=>⟨[(3,(.slu 2 0 (m + 1) 0)),(4,(.slu 3 0 (m + 1) 0)),(5,(.v (.int .i64 q.1)))],[],4,[(q20_32 A B L m),(q20_31 A B L m)]⟩)) (R:=(fun q:{q:Nat // q≤(m + 1)∧∀ x,x < q→¬ (rdB (cI A) A.length (cR L) (cB B) (m + 1) (m + 1)).2 x < (rdB (cI A) A.length (cR L) (cB B) (m + 1) (m + 1)).1 x}=>(m + 1)≤q.1)) (by kernel_rfl) (goes_spine (T':=(q20_14 A B L m)) (by kernel_rfl) (gT cm (known_gp) 200 (T':=(q20_14 A B L m)) (e:=.normal) (ps:=[]) [.go] (by kernel_rfl) (by kernel_rfl) trivial rfl) (goes_blockstep (by kernel_rfl) (fun q:{q:Nat // q≤(m + 1)∧∀ x,x < q→¬ (rdB (cI A) A.length (cR L) (cB B) (m + 1) (m + 1)).2 x < (rdB (cI A) A.length (cR L) (cB B) (m + 1) (m + 1)).1 x}=>⟨[(3,(.slu 2 0 (m + 1) 0)),(4,(.slu 3 0 (m + 1) 0)),(5,(.v (.int .i64 q.1)))],[],4,[(q20_32 A B L m),(q20_31 A B L m)]⟩) (fun q:{q:Nat // q≤(m + 1)∧∀ x,x < q→¬ (rdB (cI A) A.length (cR L) (cB B) (m + 1) (m + 1)).2 x < (rdB (cI A) A.length (cR L) (cB B) (m + 1) (m + 1)).1 x}=>(m + 1) - q.1) (fun i=>?_) ⟨0,Nat.zero_le _,(fun x hx=>by omega)⟩)) (fun ixR hxR=>goes_less (by kernel_rfl) (by kernel_rfl) (by kernel_rfl) (by kernel_rfl) (dt_9 ya yl yf yw A L B W m hz hm ixR.1 ixR.2.1 ixR.2.2 hxR w))
 obtain ⟨q,hi1,hi2⟩:=i
 show Goes pg 26 dtK7 (⟨[(3,(.slu 2 0 (m + 1) 0)),(4,(.slu 3 0 (m + 1) 0)),(5,(.v (.int .i64 q)))],[],4,[(q20_32 A B L m),(q20_31 A B L m)]⟩) w (StepQ _ _ _ _ _ _ _ _)
 rcases bE (ltI q ((m + 1:Nat):Int)) with hl0_1 | hl0_1
 ·skip
  have ghl0_1:=lT hl0_1
  rcases bE (ltI (intAt (cI (tI (rdB (cI A) A.length (cR L) (cB B) (m + 1) (m + 1)).snd (m + 1))) (0 + q * 1)) (intAt (cI (tI (rdB (cI A) A.length (cR L) (cB B) (m + 1) (m + 1)).fst (m + 1))) (0 + q * 1))) with hl0_2 | hl0_2
  ·skip
   have ghl0_2:=lT hl0_2
   rw [show 0 + q * 1=q by omega,tI_int (by omega),tI_int (by omega)] at ghl0_2
   exact Ev.step_ret (goes_eqR2 (r:=(.bool .true)) (by rw [clB_yes (show dtd (cI A) A.length (cR L) (cB B) (m + 1) from ⟨q,by omega,by omega⟩)]) (goes_ret cm (known_gp) 200 (v:=(.v (.bool .true))) (ps:=[ltI q ((m + 1:Nat):Int)=true,q < m + 1,loadL pg (cI (tI (rdB (cI A) A.length (cR L) (cB B) (m + 1) (m + 1)).fst (m + 1))) (0 + q * 1) 2=some (.v (.int .i64 (intAt (cI (tI (rdB (cI A) A.length (cR L) (cB B) (m + 1) (m + 1)).fst (m + 1))) (0 + q * 1)))),q < m + 1,loadL pg (cI (tI (rdB (cI A) A.length (cR L) (cB B) (m + 1) (m + 1)).snd (m + 1))) (0 + q * 1) 2=some (.v (.int .i64 (intAt (cI (tI (rdB (cI A) A.length (cR L) (cB B) (m + 1) (m + 1)).snd (m + 1))) (0 + q * 1)))),ltI (intAt (cI (tI (rdB (cI A) A.length (cR L) (cB B) (m + 1) (m + 1)).snd (m + 1))) (0 + q * 1)) (intAt (cI (tI (rdB (cI A) A.length (cR L) (cB B) (m + 1) (m + 1)).fst (m + 1))) (0 + q * 1))=true]) [.go,.go,.go,.go,.b true,.go,.go,.sym,.sym,.go,.go,.sym,.sym,.go,.b true,.go] (by kernel_rfl) (by kernel_rfl) ⟨hl0_1,(by omega),(tI_ld (by omega) 2 (u2) rfl),(by omega),(tI_ld (by omega) 2 (u2) rfl),hl0_2,trivial⟩ rfl))
  ·skip
   have ghl0_2:=lF hl0_2
   rw [show 0 + q * 1=q by omega,tI_int (by omega),tI_int (by omega)] at ghl0_2
   refine Ev.step_on ⟨q + 1,by omega,up_next hi2 (by omega)⟩ (by show (m + 1) - (q + 1) < (m + 1) - q; omega) ?_
   exact gT cm (known_gp) 200 (T':=⟨[(3,(.slu 2 0 (m + 1) 0)),(4,(.slu 3 0 (m + 1) 0)),(5,(.v (.int .i64 (((q + 1):Nat):Int))))],[],4,[(q20_32 A B L m),(q20_31 A B L m)]⟩) (e:=.normal) (ps:=[ltI q ((m + 1:Nat):Int)=true,q < m + 1,loadL pg (cI (tI (rdB (cI A) A.length (cR L) (cB B) (m + 1) (m + 1)).fst (m + 1))) (0 + q * 1) 2=some (.v (.int .i64 (intAt (cI (tI (rdB (cI A) A.length (cR L) (cB B) (m + 1) (m + 1)).fst (m + 1))) (0 + q * 1)))),q < m + 1,loadL pg (cI (tI (rdB (cI A) A.length (cR L) (cB B) (m + 1) (m + 1)).snd (m + 1))) (0 + q * 1) 2=some (.v (.int .i64 (intAt (cI (tI (rdB (cI A) A.length (cR L) (cB B) (m + 1) (m + 1)).snd (m + 1))) (0 + q * 1)))),ltI (intAt (cI (tI (rdB (cI A) A.length (cR L) (cB B) (m + 1) (m + 1)).snd (m + 1))) (0 + q * 1)) (intAt (cI (tI (rdB (cI A) A.length (cR L) (cB B) (m + 1) (m + 1)).fst (m + 1))) (0 + q * 1))=false,inR .i64 (((q:Nat):Int) + 1)]) [.go,.go,.go,.go,.b true,.go,.go,.sym,.sym,.go,.go,.sym,.sym,.go,.b false,.go,.go,.go] (by kernel_rfl) (by kernel_rfl) ⟨hl0_1,(by omega),(tI_ld (by omega) 2 (u2) rfl),(by omega),(tI_ld (by omega) 2 (u2) rfl),hl0_2,(iRZ20 (by omega) (by omega)),trivial⟩ rfl
 ·skip
  have ghl0_1:=lF hl0_1
  exact Ev.step_out (by show (m + 1)≤q; omega) (gT cm (known_gp) 200 (T':=⟨[(3,(.slu 2 0 (m + 1) 0)),(4,(.slu 3 0 (m + 1) 0)),(5,(.v (.int .i64 q)))],[],4,[(q20_32 A B L m),(q20_31 A B L m)]⟩) (e:=.exit 0) (ps:=[ltI q ((m + 1:Nat):Int)=false]) [.go,.go,.go,.go,.b false] (by kernel_rfl) (by kernel_rfl) ⟨hl0_1,trivial⟩ rfl)
theorem dt_4 (ya yl yf yw:Value) (A:List Int) (L:PR) (B:List Bool) (W:List Int) (m:Nat) (hz:ZK A L B W) (hm:W.length=m + 1) (w:World):Goes pg 26 dtK3 ((q20_23 A B L W ya yf yl yw)) w (OutR pg Try.f26 26 (.bool (clB (dtd (cI A) A.length (cR L) (cB B) (m + 1)))) w):=by
 obtain ⟨hcl_A,hcl_L,hcl_B,hcl_W⟩:=hcZ20 A B L W
 obtain ⟨hn,ha,he,hl,hw⟩:=clE_zero hz
 have he2:=he
 unfold eqP degI at he2
 have hm91:m + 1≤91:=by have:=deg_bd hn ha he 0 (by omega); omega
 refine goes_spineQ (ι:=Unit) (T:=fun _:Unit=>(q20_19 A B L m)) (R:=fun _:Unit=>True) (by kernel_rfl) (goes_rg (by kernel_rfl) (goesL_toldC cm (known_gp) 200 1 (T1:=⟨[(7,(.agg [(.xl (ya) (A.length) 1 (cI A)),(.xl (yl) (L.length) 2 (cR L)),(.xl (yf) (B.length) 1 (cB B)),(.xl (yw) (W.length) 1 (cI W))]))],[],1,[]⟩) (e:=.normal) (ps:=[]) [.go] (by kernel_rfl) (by kernel_rfl) (by kernel_rfl) trivial (goesL_callT (ι:=Unit) (T1:=(q20_25 A B L W ya yf yl yw)) (T2:=(fun _:Unit=>(q20_18 A B L m))) (T3:=fun _:Unit=>⟨[(8,(.tup [(.slu 2 0 (m + 1) 0),(.slu 3 0 (m + 1) 0)]))],[],4,[(2,(.row (cI (tI ((rdB (cI A) A.length (cR L) (cB B) (m + 1) (m + 1)).1) (m + 1))) 2 1)),(3,(.row (cI (tI ((rdB (cI A) A.length (cR L) (cB B) (m + 1) (m + 1)).2) (m + 1))) 2 1))]⟩) (R:=(fun _:Unit=>True)) (k:=61) (szk:=117) (by kernel_rfl) Try.func61 (by kernel_rfl) (by kernel_rfl) (by kernel_rfl) (by kernel_rfl) (fun v eb ec=>dtc1_2 ya yl yf yw A L B W m hz hm v eb ec) (fun _ _=>by kernel_rfl) (fun _ hR=>goesL_toldC cm (known_gp) 200 5 (T1:=(q20_19 A B L m)) (e:=.normal) (ps:=[]) [.go,.go,.go,.go,.go] (by kernel_rfl) (by kernel_rfl) (by kernel_rfl) trivial (goesL_endQ () hR (by kernel_rfl) (holds_view (by kernel_rfl) (by kernel_rfl) (by kernel_rfl) (by kernel_rfl))))))) (fun _ hxR=>dt_6 ya yl yf yw A L B W m hz hm  w)
theorem dt_2 (ya yl yf yw:Value) (A:List Int) (L:PR) (B:List Bool) (W:List Int) (m:Nat) (hz:ZK A L B W) (hm:W.length=m + 1) (w:World):Goes pg 26 dtK1 (⟨[(0,.agg [.xl ya A.length 1 (cI A),.xl yl L.length 2 (cR L),.xl yf B.length 1 (cB B),.xl yw W.length 1 (cI W)])],[],0,[]⟩) w (OutR pg Try.f26 26 (.bool (clB (dtd (cI A) A.length (cR L) (cB B) (m + 1)))) w):=by
 obtain ⟨hcl_A,hcl_L,hcl_B,hcl_W⟩:=hcZ20 A B L W
 obtain ⟨hn,ha,he,hl,hw⟩:=clE_zero hz
 have he2:=he
 unfold eqP degI at he2
 have hm91:m + 1≤91:=by have:=deg_bd hn ha he 0 (by omega); omega
 exact goes_spine (T':=(q20_23 A B L W ya yf yl yw)) (by kernel_rfl) (gT cm (known_gp) 200 (T':=(q20_23 A B L W ya yf yl yw)) (e:=.normal) (ps:=[]) [.go,.go] (by kernel_rfl) (by kernel_rfl) trivial rfl) (dt_4 ya yl yf yw A L B W m hz hm w)
theorem dt_g (ya yl yf yw:Value) (A:List Int) (L:PR) (B:List Bool) (W:List Int) (m:Nat) (hz:ZK A L B W) (hm:W.length=m + 1):GivesA pg 26 [.agg [.xl ya A.length 1 (cI A),.xl yl L.length 2 (cR L),.xl yf B.length 1 (cB B),.xl yw W.length 1 (cI W)]] (.bool (clB (dtd (cI A) A.length (cR L) (cB B) (m + 1)))) :=
 givesA_parts 26 Try.func26 (by kernel_rfl) (by kernel_rfl) (by kernel_rfl) (fun w=>goes_less (by kernel_rfl) (by kernel_rfl) (by kernel_rfl) (by kernel_rfl) (dt_2 ya yl yf yw A L B W m hz hm w))
end
end Go.Proofs.Ytldekgkjofgacaa
