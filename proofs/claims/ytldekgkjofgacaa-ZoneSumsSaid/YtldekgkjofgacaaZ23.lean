import Derived.Test.YtldekgkjofgacaaZ22b
set_option maxHeartbeats 4000000
set_option linter.all false
/- Bounds as they were measured. -/
namespace Go.Proofs.Ytldekgkjofgacaa
open Go Ev
noncomputable section
theorem hcZ23 (A:List Int) (B:List Bool) (L:PR) (W:List Int):(cI A).length=A.length∧(cR L).length=L.length * 2∧(cB B).length=B.length∧(cI W).length=W.length:=⟨cI_len A,cR_len L,cB_len B,cI_len W⟩
section
variable (A : List Int) (B : List Bool) (L : PR) (W : List Int) (d : Nat) (eb : EB) (ec : EC) (hi : Nat → Int) (i : Nat) (v : BaseW) (ya yf yl yw : Value)
abbrev q23_21:Nat×Ev.AV:=(24,(.xl (ya) (A.length) 1 (cI A)))
abbrev q23_18:Nat×Ev.AV:=(25,(.v (.int .i64 A.length)))
abbrev q23_19:Nat×Ev.AV:=(26,(.v (.int .i64 (((i + 1):Nat):Int))))
abbrev q23_16:List Ev.AV:=[AV.xl ya A.length 1 (cI A),AV.xl yl L.length 2 (cR L),AV.xl yf B.length 1 (cB B),AV.xl yw W.length 1 (cI W)]
abbrev q23_12:=(bdC (q23_16 A B L W ya yf yl yw) (opA (cI A) (cR L) i).fst (opA (cI A) (cR L) i).snd)
abbrev q23_1:Ev.Lit:=⟨[(0,(.ptr 0 0)),(q23_21 A ya),(q23_18 A),(q23_19 i)],[],1,[(0,(.cells (splice (splice (q23_12 A B L W i ya yf yl yw) (0 + 4 + 0 + (intAt (cI A) (i * 1) - intAt (cI A) (0 * 1)).toNat * 1) (AV.v (Value.int IntKind.i64 (if intAt (cR L) (i * 2 + 0) > intAt (q23_12 A B L W i ya yf yl yw) (0 + 4 + 0 + (intAt (cI A) (i * 1) - intAt (cI A) (0 * 1)).toNat * 1) then intAt (cR L) (i * 2 + 0) else intAt (q23_12 A B L W i ya yf yl yw) (0 + 4 + 0 + (intAt (cI A) (i * 1) - intAt (cI A) (0 * 1)).toNat * 1)))).cells) (0 + 4 + 91 + (intAt (cI A) (i * 1) - intAt (cI A) (0 * 1)).toNat * 1) (AV.v (Value.int IntKind.i64 (if intAt (cR L) (i * 2 + 1) < intAt (q23_12 A B L W i ya yf yl yw) (0 + 4 + 91 + (intAt (cI A) (i * 1) - intAt (cI A) (0 * 1)).toNat * 1) then intAt (cR L) (i * 2 + 1) else intAt (q23_12 A B L W i ya yf yl yw) (0 + 4 + 91 + (intAt (cI A) (i * 1) - intAt (cI A) (0 * 1)).toNat * 1)))).cells) 95))]⟩
abbrev q23_15:List Ev.AV:=[(.xl (ya) (A.length) 1 (cI A)),(.xl (yl) (L.length) 2 (cR L)),(.xl (yf) (B.length) 1 (cB B)),(.xl (yw) (W.length) 1 (cI W))]
abbrev q23_2:Ev.Lit:=⟨[(0,(.ptr 0 0)),(q23_21 A ya),(q23_18 A),(26,(.v (.int .i64 (.ofNat 0))))],[],1,[(0,(.cells (bdC (q23_15 A B L W ya yf yl yw) (fun x=>0) (filA hi 91)) 95))]⟩
abbrev q23_20:Nat×Ev.AV:=(10,(.v (.int .i64 (((d + 1):Nat):Int))))
abbrev q23_14:=(bdC (q23_16 A B L W ya yf yl yw) (fun x=>0) (filA hi d))
abbrev q23_3:Ev.Lit:=⟨[(0,(.ptr 0 0)),(q23_20 d)],[],1,[(0,(.cells (splice (q23_14 A B L W d hi ya yf yl yw) (0 + 4 + 91 + d * 1) (AV.v (Value.int IntKind.i64 200)).cells) 95))]⟩
abbrev q23_17:List Ev.AV:=[.xl ya A.length 1 (cI A),.xl yl L.length 2 (cR L),.xl yf B.length 1 (cB B),.xl yw W.length 1 (cI W)]
abbrev q23_22:=(opA (cI A) (cR L) A.length)
abbrev q23_9:Ev.AB:=(.cells (bdC (q23_17 A B L W ya yf yl yw) ((q23_22 A L).1) ((q23_22 A L).2)) 95)
abbrev q23_4:=(OutW pg Try.f74 48 (.tuple #[]) (q23_9 A B L W ya yf yl yw) (bw v 1 eb ec))
abbrev q23_10:Nat×Ev.AB:=(0,(.cells (bdT (q23_15 A B L W ya yf yl yw) (fun _=>(0:Int)) (hi)) 95))
abbrev q23_5:Ev.Lit:=⟨[(0,(.ptr 0 0)),(10,(.v (.int .i64 (.ofNat 0))))],[],1,[(q23_10 A B L W hi ya yf yl yw)]⟩
abbrev q23_6:Ev.AB:=(.cells (bdC (q23_15 A B L W ya yf yl yw) (opA (cI A) (cR L) (A.length)).fst (opA (cI A) (cR L) (A.length)).snd) 95)
abbrev q23_7:Ev.Lit:=⟨[(0,(.ptr 0 0))],[],1,[(0,(.cells (bdC (q23_15 A B L W ya yf yl yw) (fun x=>0) (filA hi (91))) 95))]⟩
abbrev q23_8:Ev.Lit:=⟨[(0,(.ptr 0 0))],[],1,[(q23_10 A B L W hi ya yf yl yw)]⟩
abbrev q23_11:=(bdC (q23_17 A B L W ya yf yl yw) ((opA (cI A) (cR L) (i + 1)).1) ((opA (cI A) (cR L) (i + 1)).2))
abbrev q23_13:=(bdC (q23_17 A B L W ya yf yl yw) (fun _=>(0:Int)) (filA hi (d + 1)))
end
def opK1:Code:=bodyC Try.f74
def opK3:Code:=tlC opK1
def opK6:Code:=tlC opK3
def opK7:Code:=(hdC opK3)
def opK9:Code:=tlC opK7
def opK13:Code:=loopC opK9
def opK17:Code:=tlC opK6
def opK21:Code:=loopC opK17
theorem op_22 (ya yl yf yw:Value) (A:List Int) (L:PR) (B:List Bool) (W:List Int) (lo hi:Nat→Int) (hz:ZK A L B W) (h0b:True) (Q0:(ltI 91 91)=false) (i:Nat) (hi1:i≤A.length) (hi2:True) (v:BaseW) (eb:EB) (ec:EC) (hs:LN):Goes pg 48 opK21 (⟨[(0,(.ptr 0 0)),(q23_21 A ya),(q23_18 A),(26,(.v (.int .i64 i)))],[],1,[(0,(.cells (bdC (q23_17 A B L W ya yf yl yw) ((opA (cI A) (cR L) i).1) ((opA (cI A) (cR L) i).2)) 95))]⟩) (BaseW.H (bw v 1 eb ec) hs) (Hd.StepL 48 2 (fun i:{i:Nat // i≤A.length∧True}=>⟨[(0,(.ptr 0 0)),(q23_21 A ya),(q23_18 A),(26,(.v (.int .i64 i.1)))],[],1,[(0,(.cells (bdC (q23_17 A B L W ya yf yl yw) ((opA (cI A) (cR L) i.1).1) ((opA (cI A) (cR L) i.1).2)) 95))]⟩) (fun i:{i:Nat // i≤A.length∧True}=>A.length - i.1) (bw v 1 eb ec) (q23_4 A B L W eb ec v ya yf yl yw) (⟨i,hi1,hi2⟩:{i:Nat // i≤A.length∧True})):=by
 obtain ⟨hcl_A,hcl_L,hcl_B,hcl_W⟩:=hcZ23 A B L W
 obtain ⟨hn,ha,he,hl,hw⟩:=clE_zero hz
 have he2:=he
 unfold eqP degI at he2
 have hl4:((q23_17 A B L W ya yf yl yw):List AV).length=4:=rfl
 have Q2:=lF Q0
 rcases bE (ltI i A.length) with Q1 | Q1
 ·skip
  have Q3:=lT Q1
  have hd:=deg_bd hn ha he i (by omega)
  exact gL isN_e (gK cm (kN) 200 (T':=(q23_1 A B L W i ya yf yl yw)) (e:=.normal) (m:=3) (ps:=[ltI i A.length=true,i < A.length,loadL pg (cI A) (i * 1) 2=some (.v (.int .i64 (intAt (cI A) (i * 1)))),0 < A.length,loadL pg (cI A) (0 * 1) 2=some (.v (.int .i64 (intAt (cI A) (0 * 1)))),inR .i64 (intAt (cI A) (i * 1) - intAt (cI A) (0 * 1)),i < L.length,loadL pg (cR L) (i * 2) 40=some (AV.agg [.v (.int .i64 (intAt (cR L) (i * 2 + 0))),.v (.int .i64 (intAt (cR L) (i * 2 + 1)))]),0≤intAt (cI A) (i * 1) - intAt (cI A) (0 * 1),(intAt (cI A) (i * 1) - intAt (cI A) (0 * 1)).toNat < 91,loadL pg (q23_12 A B L W i ya yf yl yw) (0 + 4 + 0 + (intAt (cI A) (i * 1) - intAt (cI A) (0 * 1)).toNat * 1) 2=some (.v (.int .i64 (intAt (q23_12 A B L W i ya yf yl yw) (0 + 4 + 0 + (intAt (cI A) (i * 1) - intAt (cI A) (0 * 1)).toNat * 1)))),0≤intAt (cI A) (i * 1) - intAt (cI A) (0 * 1),(intAt (cI A) (i * 1) - intAt (cI A) (0 * 1)).toNat < 91,loadL pg (q23_12 A B L W i ya yf yl yw) (0 + 4 + 91 + (intAt (cI A) (i * 1) - intAt (cI A) (0 * 1)).toNat * 1) 2=some (.v (.int .i64 (intAt (q23_12 A B L W i ya yf yl yw) (0 + 4 + 91 + (intAt (cI A) (i * 1) - intAt (cI A) (0 * 1)).toNat * 1)))),0≤intAt (cI A) (i * 1) - intAt (cI A) (0 * 1),(intAt (cI A) (i * 1) - intAt (cI A) (0 * 1)).toNat < 91,0 + 4 + 0 + (intAt (cI A) (i * 1) - intAt (cI A) (0 * 1)).toNat * 1 + (AV.v (Value.int IntKind.i64 (if intAt (cR L) (i * 2 + 0) > intAt (q23_12 A B L W i ya yf yl yw) (0 + 4 + 0 + (intAt (cI A) (i * 1) - intAt (cI A) (0 * 1)).toNat * 1) then intAt (cR L) (i * 2 + 0) else intAt (q23_12 A B L W i ya yf yl yw) (0 + 4 + 0 + (intAt (cI A) (i * 1) - intAt (cI A) (0 * 1)).toNat * 1)))).cells.length≤(q23_12 A B L W i ya yf yl yw).length,0≤intAt (cI A) (i * 1) - intAt (cI A) (0 * 1),(intAt (cI A) (i * 1) - intAt (cI A) (0 * 1)).toNat < 91,0 + 4 + 91 + (intAt (cI A) (i * 1) - intAt (cI A) (0 * 1)).toNat * 1 + (AV.v (Value.int IntKind.i64 (if intAt (cR L) (i * 2 + 1) < intAt (q23_12 A B L W i ya yf yl yw) (0 + 4 + 91 + (intAt (cI A) (i * 1) - intAt (cI A) (0 * 1)).toNat * 1) then intAt (cR L) (i * 2 + 1) else intAt (q23_12 A B L W i ya yf yl yw) (0 + 4 + 91 + (intAt (cI A) (i * 1) - intAt (cI A) (0 * 1)).toNat * 1)))).cells.length≤(splice (q23_12 A B L W i ya yf yl yw) (0 + 4 + 0 + (intAt (cI A) (i * 1) - intAt (cI A) (0 * 1)).toNat * 1) (AV.v (Value.int IntKind.i64 (if intAt (cR L) (i * 2 + 0) > intAt (q23_12 A B L W i ya yf yl yw) (0 + 4 + 0 + (intAt (cI A) (i * 1) - intAt (cI A) (0 * 1)).toNat * 1) then intAt (cR L) (i * 2 + 0) else intAt (q23_12 A B L W i ya yf yl yw) (0 + 4 + 0 + (intAt (cI A) (i * 1) - intAt (cI A) (0 * 1)).toNat * 1)))).cells).length,inR .i64 (((i:Nat):Int) + 1)]) [.go,.b true,.go,.sym,.sym,.go,.go,.go,.go,.go,.go,.go,.go,.go,.go,.go,.go,.go,.sym,.sym,.go,.go,.go,.go,.go,.go,.go,.go,.sym,.sym,.go,.go,.go,.go,.go,.go,.go,.go,.go,.go,.nat,.sym,.go,.go,.go,.go,.go,.go,.go,.go,.nat,.sym,.go,.go,.go,.go,.go,.go,.nat,.sym,.go,.go,.go,.nat,.sym,.go,.go] (by kernel_rfl) (by kernel_rfl) ⟨Q1,(by omega),(cI_ld (by omega) 2 (u2) rfl),(by omega),(cI_ld (by omega) 2 (u2) rfl),(by show -9223372036854775808≤_∧_≤9223372036854775807; constructor <;> omega),(by omega),(cR_load (by omega) 40 (Try.underlying40) rfl (inf:=(pg.info? 40).getD default) (by kernel_rfl) (by kernel_rfl)),(by omega),(by omega),(bd_ld rfl (by omega) (by omega) 2 (u2) rfl),(by omega),(by omega),(bd_ld rfl (by omega) (by omega) 2 (u2) rfl),(by omega),(by omega),(by show _ + 1≤_; rw [bdC_len rfl]; omega),(by omega),(by omega),(by show _ + 1≤_; rw [splice_len (by show _ + 1≤_; rw [bdC_len rfl]; omega),bdC_len rfl]; omega),(by show -9223372036854775808≤_∧_≤9223372036854775807; constructor <;> omega),trivial⟩ rfl (by show 1≤3; decide) ⟨⟨nb_ptr (by show 0 < 1; decide),nb_xl (cI_plain A),nb_v _,nb_v _,trivial⟩,⟨⟨by show 0 < 1; decide,nbb_cells (nbA_splice (nbA_splice (nbA_bdC (nb_cons (nb_xl (cI_plain A)) (nb_cons (nb_xl (cR_plain L)) (nb_cons (nb_xl (cB_plain B)) (nb_cons (nb_xl (cI_plain W)) (fun _ hz=>absurd hz List.not_mem_nil)))))) (nbA_v)) (nbA_v))⟩,trivial⟩,rfl⟩ (by show 1≤1; decide)) (Hd.en_tn (⟨i + 1,by omega,trivial⟩) (by show A.length - (i + 1) < A.length - i; omega) (show ((q23_1 A B L W i ya yf yl yw):Ev.Lit)=⟨[(0,(.ptr 0 0)),(q23_21 A ya),(q23_18 A),(q23_19 i)],[],1,[(0,(.cells (q23_11 A B L W i ya yf yl yw) 95))]⟩ from by have hz_:=congrArg (fun (xq0:Ev.AB)=>(⟨[(0,(.ptr 0 0)),(q23_21 A ya),(q23_18 A),(q23_19 i)],[],1,[(0,xq0)]⟩:Ev.Lit)) (congrArg (fun z=>Ev.AB.cells z 95) (show ((splice (splice (q23_12 A B L W i ya yf yl yw) (0 + 4 + 0 + (intAt (cI A) (i * 1) - intAt (cI A) (0 * 1)).toNat * 1) (AV.v (Value.int IntKind.i64 (if intAt (cR L) (i * 2 + 0) > intAt (q23_12 A B L W i ya yf yl yw) (0 + 4 + 0 + (intAt (cI A) (i * 1) - intAt (cI A) (0 * 1)).toNat * 1) then intAt (cR L) (i * 2 + 0) else intAt (q23_12 A B L W i ya yf yl yw) (0 + 4 + 0 + (intAt (cI A) (i * 1) - intAt (cI A) (0 * 1)).toNat * 1)))).cells) (0 + 4 + 91 + (intAt (cI A) (i * 1) - intAt (cI A) (0 * 1)).toNat * 1) (AV.v (Value.int IntKind.i64 (if intAt (cR L) (i * 2 + 1) < intAt (q23_12 A B L W i ya yf yl yw) (0 + 4 + 91 + (intAt (cI A) (i * 1) - intAt (cI A) (0 * 1)).toNat * 1) then intAt (cR L) (i * 2 + 1) else intAt (q23_12 A B L W i ya yf yl yw) (0 + 4 + 91 + (intAt (cI A) (i * 1) - intAt (cI A) (0 * 1)).toNat * 1)))).cells):List Ev.AV)=(q23_11 A B L W i ya yf yl yw) from by exact bd_nar rfl (degA (cI A) i).toNat _ _ (by unfold degA; omega) (by unfold degA; omega) (by unfold degA; omega) (by unfold degA; omega) (by unfold degA; omega))); exact hz_))
 ·skip
  have Q3:=lF Q1
  obtain rfl:i=A.length:=by omega
  exact gL isX_e (gT cm (kN) 200 (T':=⟨[],[],1,[(0,(q23_6 A B L W ya yf yl yw))]⟩) (e:=.exit 2) (ps:=[ltI A.length A.length=false]) [.go,.b false] (by kernel_rfl) (by kernel_rfl) ⟨Q1,trivial⟩ rfl) (Hd.en_tx (en_eqW (r:=.tuple #[]) (x:=(q23_6 A B L W ya yf yl yw)) (by rfl) (by rfl) (en_retW (v:=(.tup [])) (by kernel_rfl) (by kernel_rfl) rfl (.inl rfl))))
theorem op_20 (ya yl yf yw:Value) (A:List Int) (L:PR) (B:List Bool) (W:List Int) (lo hi:Nat→Int) (hz:ZK A L B W) (h0b:True) (Q0:(ltI 91 91)=false) (v:BaseW) (eb:EB) (ec:EC) (hs:LN):Goes pg 48 opK17 (⟨[(0,(.ptr 0 0)),(24,(.xl (ya) (A.length) 1 (cI A))),(25,(.v (.int .i64 A.length))),(26,(.v (.int .i64 (.ofNat 0))))],[],1,[(0,(.cells (bdC [(.xl (ya) (A.length) 1 (cI A)),(.xl (yl) (L.length) 2 (cR L)),(.xl (yf) (B.length) 1 (cB B)),(.xl (yw) (W.length) 1 (cI W))] (fun x=>0) (filA hi 91)) 95))]⟩) (BaseW.H (bw v 1 eb ec) hs) (OutW pg Try.f74 48 (.tuple #[]) (.cells (bdC [.xl ya A.length 1 (cI A),.xl yl L.length 2 (cR L),.xl yf B.length 1 (cB B),.xl yw W.length 1 (cI W)] ((opA (cI A) (cR L) A.length).1) ((opA (cI A) (cR L) A.length).2)) 95) (bw v 1 eb ec)):=by
 obtain ⟨hcl_A,hcl_L,hcl_B,hcl_W⟩:=hcZ23 A B L W
 obtain ⟨hn,ha,he,hl,hw⟩:=clE_zero hz
 have he2:=he
 unfold eqP degI at he2
 have hl4:([.xl ya A.length 1 (cI A),.xl yl L.length 2 (cR L),.xl yf B.length 1 (cB B),.xl yw W.length 1 (cI W)]:List AV).length=4:=rfl
 have Q2:=lF Q0
 rw [show (⟨[(0,(.ptr 0 0)),(24,(.xl (ya) (A.length) 1 (cI A))),(25,(.v (.int .i64 A.length))),(26,(.v (.int .i64 (.ofNat 0))))],[],1,[(0,(.cells (bdC [(.xl (ya) (A.length) 1 (cI A)),(.xl (yl) (L.length) 2 (cR L)),(.xl (yf) (B.length) 1 (cB B)),(.xl (yw) (W.length) 1 (cI W))] (fun x=>0) (filA hi 91)) 95))]⟩:Ev.Lit)=⟨[(0,(.ptr 0 0)),(24,(.xl (ya) (A.length) 1 (cI A))),(25,(.v (.int .i64 A.length))),(26,(.v (.int .i64 0)))],[],1,[(0,(.cells (bdC [.xl ya A.length 1 (cI A),.xl yl L.length 2 (cR L),.xl yf B.length 1 (cB B),.xl yw W.length 1 (cI W)] ((opA (cI A) (cR L) 0).1) ((opA (cI A) (cR L) 0).2)) 95))]⟩ from by rw [show bdC [.xl ya A.length 1 (cI A),.xl yl L.length 2 (cR L),.xl yf B.length 1 (cB B),.xl yw W.length 1 (cI W)] (fun _=>(0:Int)) (filA hi 91)=bdC [.xl ya A.length 1 (cI A),.xl yl L.length 2 (cR L),.xl yf B.length 1 (cB B),.xl yw W.length 1 (cI W)] (opA (cI A) (cR L) 0).1 (opA (cI A) (cR L) 0).2 from bdC_ext (fun _ _=>rfl) (fun k hk=>filA_at hi 91 k hk)]; rfl]
 exact Hd.goes_loopL (id:=2) (by kernel_rfl) (by kernel_rfl) (fun i:{i:Nat // i≤A.length∧True}=>⟨[(0,(.ptr 0 0)),(24,(.xl (ya) (A.length) 1 (cI A))),(25,(.v (.int .i64 A.length))),(26,(.v (.int .i64 i.1)))],[],1,[(0,(.cells (bdC [.xl ya A.length 1 (cI A),.xl yl L.length 2 (cR L),.xl yf B.length 1 (cB B),.xl yw W.length 1 (cI W)] ((opA (cI A) (cR L) i.1).1) ((opA (cI A) (cR L) i.1).2)) 95))]⟩) (fun i:{i:Nat // i≤A.length∧True}=>A.length - i.1) (fun i hs=>op_22 ya yl yf yw A L B W lo hi hz h0b Q0 i.1 i.2.1 i.2.2 v eb ec hs) ⟨0,Nat.zero_le _,trivial⟩ hs
theorem op_19 (ya yl yf yw:Value) (A:List Int) (L:PR) (B:List Bool) (W:List Int) (lo hi:Nat→Int) (hz:ZK A L B W) (h0b:True) (Q0:(ltI 91 91)=false) (v:BaseW) (eb:EB) (ec:EC) (hs:LN):Goes pg 48 opK17 ((q23_2 A B L W hi ya yf yl yw)) (BaseW.H (bw v 1 eb ec) hs) (q23_4 A B L W eb ec v ya yf yl yw):=by
 exact op_20 ya yl yf yw A L B W lo hi hz h0b Q0 v eb ec hs
theorem op_16 (ya yl yf yw:Value) (A:List Int) (L:PR) (B:List Bool) (W:List Int) (lo hi:Nat→Int) (hz:ZK A L B W) (h0b:True) (Q0:(ltI 91 91)=false) (v:BaseW) (eb:EB) (ec:EC) (hs:LN):Goes pg 48 opK6 ((q23_7 A B L W hi ya yf yl yw)) (BaseW.H (bw v 1 eb ec) hs) (q23_4 A B L W eb ec v ya yf yl yw):=by
 obtain ⟨hcl_A,hcl_L,hcl_B,hcl_W⟩:=hcZ23 A B L W
 obtain ⟨hn,ha,he,hl,hw⟩:=clE_zero hz
 have he2:=he
 unfold eqP degI at he2
 have hl4:((q23_17 A B L W ya yf yl yw):List AV).length=4:=rfl
 have Q2:=lF Q0
 refine Hd.goes_seqA (by kernel_rfl) ?_
 exact gL isN_e (gT cm (kN) 200 (T':=(q23_2 A B L W hi ya yf yl yw)) (e:=.normal) (ps:=[]) [.go,.go,.go,.go,.go,.go,.go] (by kernel_rfl) (by kernel_rfl) trivial rfl) (Hd.en_n (op_19 ya yl yf yw A L B W lo hi hz h0b Q0 v eb ec hs))
theorem op_14 (ya yl yf yw:Value) (A:List Int) (L:PR) (B:List Bool) (W:List Int) (lo hi:Nat→Int) (hz:ZK A L B W) (d:Nat) (hd1:d≤91) (hd2:True) (v:BaseW) (eb:EB) (ec:EC) (hs:LN):Goes pg 48 opK13 (⟨[(0,(.ptr 0 0)),(10,(.v (.int .i64 d)))],[],1,[(0,(.cells (bdC (q23_17 A B L W ya yf yl yw) (fun _=>(0:Int)) (filA hi d)) 95))]⟩) (BaseW.H (bw v 1 eb ec) hs) (Hd.StepC pg 48 0 (fun d:{d:Nat // d≤91∧True}=>⟨[(0,(.ptr 0 0)),(10,(.v (.int .i64 d.1)))],[],1,[(0,(.cells (bdC (q23_17 A B L W ya yf yl yw) (fun _=>(0:Int)) (filA hi d.1)) 95))]⟩) (fun d:{d:Nat // d≤91∧True}=>91 - d.1) opK6 (bw v 1 eb ec) (q23_4 A B L W eb ec v ya yf yl yw) (⟨d,hd1,hd2⟩:{d:Nat // d≤91∧True})):=by
 obtain ⟨hcl_A,hcl_L,hcl_B,hcl_W⟩:=hcZ23 A B L W
 obtain ⟨hn,ha,he,hl,hw⟩:=clE_zero hz
 have he2:=he
 unfold eqP degI at he2
 have hl4:((q23_17 A B L W ya yf yl yw):List AV).length=4:=rfl
 rcases bE (ltI d 91) with Q0 | Q0
 ·skip
  have Q2:=lT Q0
  exact gL isN_e (gT cm (kN) 200 (T':=(q23_3 A B L W d hi ya yf yl yw)) (e:=.normal) (ps:=[ltI d 91=true,d < 91,0 + 4 + 91 + d * 1 + (AV.v (Value.int IntKind.i64 200)).cells.length≤(q23_14 A B L W d hi ya yf yl yw).length,inR .i64 (((d:Nat):Int) + 1)]) [.go,.b true,.go,.go,.go,.go,.go,.go,.go,.sym,.sym,.go,.go] (by kernel_rfl) (by kernel_rfl) ⟨Q0,(by omega),(by show _ + 1≤_; rw [bdC_len rfl]; omega),(by show -9223372036854775808≤_∧_≤9223372036854775807; constructor <;> omega),trivial⟩ rfl) (Hd.en_on (⟨d + 1,by omega,trivial⟩) (by show 91 - (d + 1) < 91 - d; omega) (show ((q23_3 A B L W d hi ya yf yl yw):Ev.Lit)=⟨[(0,(.ptr 0 0)),(q23_20 d)],[],1,[(0,(.cells (q23_13 A B L W d hi ya yf yl yw) 95))]⟩ from by have hz_:=congrArg (fun (xq0:Ev.AB)=>(⟨[(0,(.ptr 0 0)),(q23_20 d)],[],1,[(0,xq0)]⟩:Ev.Lit)) (congrArg (fun z=>Ev.AB.cells z 95) (show ((splice (q23_14 A B L W d hi ya yf yl yw) (0 + 4 + 91 + d * 1) (AV.v (Value.int IntKind.i64 200)).cells):List Ev.AV)=(q23_13 A B L W d hi ya yf yl yw) from by exact bdC_setHi rfl (by omega) (by omega) 200)); exact hz_))
 ·skip
  have Q2:=lF Q0
  obtain rfl:91=d:=by omega
  exact gL isX_e (gT cm (kN) 200 (T':=(q23_7 A B L W hi ya yf yl yw)) (e:=.exit 0) (ps:=[ltI 91 91=false]) [.go,.b false] (by kernel_rfl) (by kernel_rfl) ⟨Q0,trivial⟩ rfl) (Hd.en_sx (op_16 ya yl yf yw A L B W lo hi hz hd2  Q0 v eb ec hs))
theorem op_12 (ya yl yf yw:Value) (A:List Int) (L:PR) (B:List Bool) (W:List Int) (lo hi:Nat→Int) (hz:ZK A L B W) (v:BaseW) (eb:EB) (ec:EC) (hs:LN):Goes pg 48 opK9 (⟨[(0,(.ptr 0 0)),(10,(.v (.int .i64 (.ofNat 0))))],[],1,[(0,(.cells (bdT [(.xl (ya) (A.length) 1 (cI A)),(.xl (yl) (L.length) 2 (cR L)),(.xl (yf) (B.length) 1 (cB B)),(.xl (yw) (W.length) 1 (cI W))] (fun _=>(0:Int)) (hi)) 95))]⟩) (BaseW.H (bw v 1 eb ec) hs) (Hd.AfterN pg 48 opK6 (bw v 1 eb ec) (OutW pg Try.f74 48 (.tuple #[]) (.cells (bdC [.xl ya A.length 1 (cI A),.xl yl L.length 2 (cR L),.xl yf B.length 1 (cB B),.xl yw W.length 1 (cI W)] ((opA (cI A) (cR L) A.length).1) ((opA (cI A) (cR L) A.length).2)) 95) (bw v 1 eb ec))):=by
 obtain ⟨hcl_A,hcl_L,hcl_B,hcl_W⟩:=hcZ23 A B L W
 obtain ⟨hn,ha,he,hl,hw⟩:=clE_zero hz
 have he2:=he
 unfold eqP degI at he2
 have hl4:([.xl ya A.length 1 (cI A),.xl yl L.length 2 (cR L),.xl yf B.length 1 (cB B),.xl yw W.length 1 (cI W)]:List AV).length=4:=rfl
 rw [show (⟨[(0,(.ptr 0 0)),(10,(.v (.int .i64 (.ofNat 0))))],[],1,[(0,(.cells (bdT [(.xl (ya) (A.length) 1 (cI A)),(.xl (yl) (L.length) 2 (cR L)),(.xl (yf) (B.length) 1 (cB B)),(.xl (yw) (W.length) 1 (cI W))] (fun _=>(0:Int)) (hi)) 95))]⟩:Ev.Lit)=⟨[(0,(.ptr 0 0)),(10,(.v (.int .i64 0)))],[],1,[(0,(.cells (bdC [.xl ya A.length 1 (cI A),.xl yl L.length 2 (cR L),.xl yf B.length 1 (cB B),.xl yw W.length 1 (cI W)] (fun _=>(0:Int)) (filA hi 0)) 95))]⟩ from by rw [bdT_eq]; rfl]
 exact Hd.goes_loopA (id:=0) (by kernel_rfl) (by kernel_rfl) (fun d:{d:Nat // d≤91∧True}=>⟨[(0,(.ptr 0 0)),(10,(.v (.int .i64 d.1)))],[],1,[(0,(.cells (bdC [.xl ya A.length 1 (cI A),.xl yl L.length 2 (cR L),.xl yf B.length 1 (cB B),.xl yw W.length 1 (cI W)] (fun _=>(0:Int)) (filA hi d.1)) 95))]⟩) (fun d:{d:Nat // d≤91∧True}=>91 - d.1) (fun i hs=>op_14 ya yl yf yw A L B W lo hi hz i.1 i.2.1 i.2.2 v eb ec hs) ⟨0,Nat.zero_le _,trivial⟩ hs
theorem op_11 (ya yl yf yw:Value) (A:List Int) (L:PR) (B:List Bool) (W:List Int) (lo hi:Nat→Int) (hz:ZK A L B W) (v:BaseW) (eb:EB) (ec:EC) (hs:LN):Goes pg 48 opK9 ((q23_5 A B L W hi ya yf yl yw)) (BaseW.H (bw v 1 eb ec) hs) (Hd.AfterN pg 48 opK6 (bw v 1 eb ec) (q23_4 A B L W eb ec v ya yf yl yw)):=by
 exact op_12 ya yl yf yw A L B W lo hi hz v eb ec hs
theorem op_8 (ya yl yf yw:Value) (A:List Int) (L:PR) (B:List Bool) (W:List Int) (lo hi:Nat→Int) (hz:ZK A L B W) (v:BaseW) (eb:EB) (ec:EC) (hs:LN):Goes pg 48 opK7 ((q23_8 A B L W hi ya yf yl yw)) (BaseW.H (bw v 1 eb ec) hs) (Hd.AfterN pg 48 opK6 (bw v 1 eb ec) (q23_4 A B L W eb ec v ya yf yl yw)):=by
 obtain ⟨hcl_A,hcl_L,hcl_B,hcl_W⟩:=hcZ23 A B L W
 obtain ⟨hn,ha,he,hl,hw⟩:=clE_zero hz
 have he2:=he
 unfold eqP degI at he2
 have hl4:((q23_17 A B L W ya yf yl yw):List AV).length=4:=rfl
 refine Hd.goes_seqA (by kernel_rfl) ?_
 exact gL isN_e (gT cm (kN) 200 (T':=(q23_5 A B L W hi ya yf yl yw)) (e:=.normal) (ps:=[]) [.go] (by kernel_rfl) (by kernel_rfl) trivial rfl) (Hd.en_n (op_11 ya yl yf yw A L B W lo hi hz v eb ec hs))
theorem op_5 (ya yl yf yw:Value) (A:List Int) (L:PR) (B:List Bool) (W:List Int) (lo hi:Nat→Int) (hz:ZK A L B W) (v:BaseW) (eb:EB) (ec:EC) (hs:LN):Goes pg 48 opK3 ((q23_8 A B L W hi ya yf yl yw)) (BaseW.H (bw v 1 eb ec) hs) (q23_4 A B L W eb ec v ya yf yl yw):=by
 exact Hd.goes_seqA (by kernel_rfl) (op_8 ya yl yf yw A L B W lo hi hz v eb ec hs)
theorem op_2 (ya yl yf yw:Value) (A:List Int) (L:PR) (B:List Bool) (W:List Int) (lo hi:Nat→Int) (hz:ZK A L B W) (v:BaseW) (eb:EB) (ec:EC) (hs:LN):Goes pg 48 opK1 (⟨[(0,.ptr 0 0)],[],1,[(0,(.cells (bdT (q23_17 A B L W ya yf yl yw) lo hi) 95))]⟩) (BaseW.H (bw v 1 eb ec) hs) (q23_4 A B L W eb ec v ya yf yl yw):=by
 obtain ⟨hcl_A,hcl_L,hcl_B,hcl_W⟩:=hcZ23 A B L W
 obtain ⟨hn,ha,he,hl,hw⟩:=clE_zero hz
 have he2:=he
 unfold eqP degI at he2
 have hl4:((q23_17 A B L W ya yf yl yw):List AV).length=4:=rfl
 refine Hd.goes_seqA (by kernel_rfl) ?_
 exact gL isN_e (gT cm (kN) 200 (T':=(q23_8 A B L W hi ya yf yl yw)) (e:=.normal) (ps:=[]) [.go,.go,.go,.go,.go,.go] (by kernel_rfl) (by kernel_rfl) trivial rfl) (Hd.en_n (op_5 ya yl yf yw A L B W lo hi hz v eb ec hs))
theorem open_g (ya yl yf yw:Value) (A:List Int) (L:PR) (B:List Bool) (W:List Int) (lo hi:Nat→Int) (hz:ZK A L B W):GivesW pg 74 [.ptr 0 0] (.cells (bdT (q23_17 A B L W ya yf yl yw) lo hi) 95) (.tuple #[]) (q23_9 A B L W ya yf yl yw) :=
 givesW_parts 48 Try.func74 (by kernel_rfl) (by kernel_rfl) (by kernel_rfl) (fun v eb ec=>goes_less (by kernel_rfl) (by kernel_rfl) (by kernel_rfl) (by kernel_rfl) (op_2 ya yl yf yw A L B W lo hi hz v eb ec []))
end
end Go.Proofs.Ytldekgkjofgacaa
