import Derived.Test.YtldekgkjofgacaaZ30a
set_option maxHeartbeats 4000000
set_option linter.all false
/- Span. -/
namespace Go.Proofs.Ytldekgkjofgacaa
open Go Ev
noncomputable section
theorem hcZ30 (A:List Int) (B:List Bool) (L:PR) (W:List Int):(cI A).length=A.length∧(cR L).length=L.length * 2∧(cB B).length=B.length∧(cI W).length=W.length:=⟨cI_len A,cR_len L,cB_len B,cI_len W⟩
theorem iRZ30 {a:Int} (h : -9223372036854775808≤a) (k:a≤9223372036854775807):inR .i64 a:=⟨h,k⟩
section
variable (A : List Int) (B : List Bool) (L : PR) (W : List Int) (d : Int) (w : World) (ya yf yl yw : Value)
abbrev q30_23:List Ev.AV:=[(.xl (ya) (A.length) 1 (cI A)),(.xl (yl) (L.length) 2 (cR L)),(.xl (yf) (B.length) 1 (cB B)),(.xl (yw) (W.length) 1 (cI W))]
abbrev q30_20:Nat×Ev.AB:=(0,(.cells (q30_23 A B L W ya yf yl yw) 26))
abbrev q30_26:Nat×Ev.AB:=(1,(.cells [(.v (.int .i64 (.ofNat 0))),(.v (.int .i64 (.ofNat 0)))] 40))
abbrev q30_28:=(rdB (cI A) A.length (cR L) (cB B) W.length W.length)
abbrev q30_12:Nat×Ev.AB:=(4,(.cells (bdT (q30_23 A B L W ya yf yl yw) ((q30_28 A B L W).fst) ((q30_28 A B L W).snd)) 95))
abbrev q30_1:Ev.Lit:=⟨[(1,(.v (.int .i64 (d)))),(2,(.ptr 0 0)),(4,(.ptr 1 0)),(7,(.ptr 4 0)),(8,(.v (.int .i64 (.ofNat 0))))],[],5,[(q30_20 A B L W ya yf yl yw),q30_26,(q30_12 A B L W ya yf yl yw)]⟩
abbrev q30_2:=(OutR pg Try.f29 44 (.tuple #[.agg #[.int .i64 (spV (cI A) A.length (cR L) L.length (cB B) B.length (cI W) W.length (dgE (cI A) A.length d) ((q30_28 A B L W).1 (d - intAt (cI A) (0 * 1)).toNat)),.int .i64 (spV (cI A) A.length (cR L) L.length (cB B) B.length (cI W) W.length (dgE (cI A) A.length d) ((q30_28 A B L W).2 (d - intAt (cI A) (0 * 1)).toNat))],.int .i64 (spE (cI A) A.length (cR L) L.length (cB B) B.length (cI W) W.length (dgE (cI A) A.length d))]) w)
abbrev q30_19:=(bdT [(.v (Value.slice none 0 0)),(.v (Value.slice none 0 0)),(.v (Value.slice none 0 0)),(.v (Value.slice none 0 0))] (fun _=>(0:Int)) (fun _=>(0:Int)))
abbrev q30_18:Ev.AB:=(.cells q30_19 95)
abbrev q30_3:Ev.Lit:=⟨[(1,(.v (.int .i64 (d)))),(2,(.ptr 0 0)),(4,(.ptr 1 0)),(7,(.ptr 4 0)),(8,(.v (.int .i64 (.ofNat 21))))],[],5,[(q30_20 A B L W ya yf yl yw),q30_26,(4,q30_18)]⟩
abbrev q30_29:Nat×Ev.AV:=(3,(.v (.int .i64 (.ofNat 0))))
abbrev q30_25:List Ev.AV:=[.xl ya A.length 1 (cI A),.xl yl L.length 2 (cR L),.xl yf B.length 1 (cB B),.xl yw W.length 1 (cI W)]
abbrev q30_17:=(bdT (q30_25 A B L W ya yf yl yw) (q30_28 A B L W).1 (q30_28 A B L W).2)
abbrev q30_14:Nat×Ev.AB:=(3,(.cells (q30_17 A B L W ya yf yl yw) 95))
abbrev q30_4:Ev.Lit:=⟨[(2,(.ptr 3 0)),q30_29],[],4,[(q30_20 A B L W ya yf yl yw),q30_26,(q30_14 A B L W ya yf yl yw)]⟩
abbrev q30_5:Ev.Lit:=⟨[(2,(.ptr 3 0)),(3,(.v (.int .i64 (.ofNat 21))))],[],4,[(q30_20 A B L W ya yf yl yw),q30_26,(3,q30_18)]⟩
abbrev q30_6:=(OutR pg Try.f27 23 (.tuple #[.agg #[.int .i64 (spV (cI A) A.length (cR L) L.length (cB B) B.length (cI W) W.length 0 (sumG (cI W) (q30_28 A B L W).1 W.length)),.int .i64 (spV (cI A) A.length (cR L) L.length (cB B) B.length (cI W) W.length 0 (sumG (cI W) (q30_28 A B L W).2 W.length))],.int .i64 (spE (cI A) A.length (cR L) L.length (cB B) B.length (cI W) W.length 0)]) w)
abbrev q30_22:Ev.AV:=(.agg (q30_23 A B L W ya yf yl yw))
abbrev q30_7:Ev.Lit:=⟨[(1,(.v (.int .i64 (d)))),(2,(.ptr 0 0)),(4,(.ptr 1 0)),(32,(q30_22 A B L W ya yf yl yw))],[],2,[(q30_20 A B L W ya yf yl yw),q30_26]⟩
abbrev q30_8:Ev.Lit:=⟨[(2,(.ptr 1 0)),(5,(.ptr 4 0)),(6,(.v (.int .i64 (.ofNat 0))))],[],5,[q30_26,(q30_12 A B L W ya yf yl yw)]⟩
abbrev q30_9:Ev.Lit:=⟨[(2,(.ptr 3 0)),q30_29],[],4,[q30_26,(q30_14 A B L W ya yf yl yw)]⟩
abbrev q30_21:Nat×Ev.AV:=(0,(q30_22 A B L W ya yf yl yw))
abbrev q30_10:Ev.Lit:=⟨[(q30_21 A B L W ya yf yl yw)],[],2,[(q30_20 A B L W ya yf yl yw),q30_26]⟩
abbrev q30_11:Ev.Lit:=⟨[(1,(.v (.int .i64 (d)))),(2,(.ptr 0 0)),(4,(.ptr 1 0))],[],2,[(q30_20 A B L W ya yf yl yw),q30_26]⟩
abbrev q30_13:Ev.Lit:=⟨[(1,(.ptr 0 0)),(2,(.ptr 1 0))],[],2,[(q30_20 A B L W ya yf yl yw),q30_26]⟩
abbrev q30_24:List Ev.AV:=[AV.xl ya A.length 1 (cI A),AV.xl yl L.length 2 (cR L),AV.xl yf B.length 1 (cB B),AV.xl yw W.length 1 (cI W)]
abbrev q30_15:=(bdT (q30_24 A B L W ya yf yl yw) (q30_28 A B L W).fst (q30_28 A B L W).snd)
abbrev q30_16:Ev.Lit:=⟨[(q30_21 A B L W ya yf yl yw)],[],2,[q30_26]⟩
abbrev q30_27:=(eqI (clE (cI A) A.length (cR L) L.length B.length (cI W) W.length) 0)
end
def spnK1:Code:=bodyC Try.f27
def spnK3:Code:=tlC spnK1
def spnK5:Code:=tlC spnK3
def spnc4K1:Code:=bodyC Try.f62
theorem spnc4_2 (ya yl yf yw:Value) (A:List Int) (L:PR) (B:List Bool) (W:List Int) (hf:fdAll (cB B) (cR L) A.length=none) (Q0:(eqI (clE (cI A) A.length (cR L) L.length B.length (cI W) W.length) 0)=true) (v:BaseW) (eb:EB) (ec:EC):Goes pg 15 spnc4K1 ((q30_16 A B L W ya yf yl yw)) (bw v 2 eb ec) (BackQ 15 (fun _:Unit=>(q30_9 A B L W ya yf yl yw)) (fun _:Unit=>True) (bw v 2 eb ec)):=by
 obtain ⟨hcl_A,hcl_L,hcl_B,hcl_W⟩:=hcZ30 A B L W
 have Q2:=eqI_true Q0
 have hz:=Q2
 rcases bE (eqI (dI (cB B) (cR L) A.length) 0 && (eqI (dK (cB B) (cR L) A.length) 0 && true)) with Q6 | Q6
 ·skip
  have gx:=Q6
  simp only [Bool.and_true,Bool.and_eq_true,eqI_iff,decide_eq_true_eq] at gx
  have gy:=dK_zero.1 gx
  exact gL isR_e (gK cm (known_bn) 200 (T':=(q30_9 A B L W ya yf yl yw)) (e:=.ret) (m:=5) (ps:=[IsLampK 1 2 1 1 (cI A) A.length (cR L) L.length (cB B) B.length (cI W) W.length,ZK A L B W,(!(eqI (dI (cB B) (cR L) A.length) 0 && (eqI (dK (cB B) (cR L) A.length) 0 && true)))=false,IsT95 95,IsLampK 1 2 1 1 (cI A) A.length (cR L) L.length (cB B) B.length (cI W) W.length,ZK A L B W,IsT95 95,IsLampK 1 2 1 1 (cI A) A.length (cR L) L.length (cB B) B.length (cI W) W.length,IsOpR (q30_24 A B L W ya yf yl yw) (bdT (q30_24 A B L W ya yf yl yw) (opA (cI A) (cR L) A.length).fst (opA (cI A) (cR L) A.length).snd) (opA (cI A) (cR L) A.length),ZK A L B W]) [.go,.go,.go,.go,.go,.go,.b false,.go,.go,.go,.go,.go,.go,.go] (by kernel_rfl) (by kernel_rfl) ⟨⟨rfl,rfl,rfl,rfl,A,L,B,W,rfl,rfl,rfl,rfl,rfl,rfl,rfl,rfl⟩,hz,(by rw [Q6]; rfl),rfl,⟨rfl,rfl,rfl,rfl,A,L,B,W,rfl,rfl,rfl,rfl,rfl,rfl,rfl,rfl⟩,hz,rfl,⟨rfl,rfl,rfl,rfl,A,L,B,W,rfl,rfl,rfl,rfl,rfl,rfl,rfl,rfl⟩,(isOpR_of rfl),hz,trivial⟩ rfl (by show 4≤5; decide) ⟨⟨nb_ptr (by show 3 < 4; decide),nb_v _,trivial⟩,⟨⟨by show 1 < 4; decide,nbb_cells (nb_cons (nb_v _) (nb_cons (nb_v _) (fun _ hz=>absurd hz List.not_mem_nil)))⟩,⟨by show 3 < 4; decide,nbb_cells (nbA_bdT (nb_cons (nb_xl (cI_plain A)) (nb_cons (nb_xl (cR_plain L)) (nb_cons (nb_xl (cB_plain B)) (nb_cons (nb_xl (cI_plain W)) (fun _ hz=>absurd hz List.not_mem_nil))))))⟩,trivial⟩,rfl⟩ (by show 2≤4; decide)) (en_back (()) (show True from trivial) rfl)
 ·skip
  have gy:¬ fdAll (cB B) (cR L) A.length=none:=fun q=>by have q2:=dK_zero.2 q; rw [q2.1,q2.2] at Q6; simp [eqI_self] at Q6
  exact absurd hf gy
def spnK7:Code:=tlC spnK5
theorem spn_8 (ya yl yf yw:Value) (A:List Int) (L:PR) (B:List Bool) (W:List Int) (hf:fdAll (cB B) (cR L) A.length=none) (Q0:(eqI (clE (cI A) A.length (cR L) L.length B.length (cI W) W.length) 0)=true) (w:World):Goes pg 23 spnK7 ((q30_8 A B L W ya yf yl yw)) w (OutR pg Try.f27 23 (.tuple #[.agg #[.int .i64 (spV (cI A) A.length (cR L) L.length (cB B) B.length (cI W) W.length 0 (sumG (cI W) (rdB (cI A) A.length (cR L) (cB B) W.length W.length).1 W.length)),.int .i64 (spV (cI A) A.length (cR L) L.length (cB B) B.length (cI W) W.length 0 (sumG (cI W) (rdB (cI A) A.length (cR L) (cB B) W.length W.length).2 W.length))],.int .i64 (spE (cI A) A.length (cR L) L.length (cB B) B.length (cI W) W.length 0)]) w):=by
 obtain ⟨hcl_A,hcl_L,hcl_B,hcl_W⟩:=hcZ30 A B L W
 have Q2:=eqI_true Q0
 have hz:=Q2
 exact goes_eqR (r:=.tuple #[.agg #[(.int .i64 (sumG (cI W) (loF (bdT (q30_24 A B L W ya yf yl yw) (rdB (cI A) A.length (cR L) (cB B) W.length W.length).fst (rdB (cI A) A.length (cR L) (cB B) W.length W.length).snd)) W.length)),(.int .i64 (sumG (cI W) (hiF (bdT (q30_24 A B L W ya yf yl yw) (rdB (cI A) A.length (cR L) (cB B) W.length W.length).fst (rdB (cI A) A.length (cR L) (cB B) W.length W.length).snd)) W.length))],(.int .i64 0)]) (by rw [spE_ok hz hf,spV_ok hz hf,spV_ok hz hf,sumG_lo rfl (nw_le hz),sumG_hi rfl (nw_le hz)]) (goes_out cm (known_bn) 200 (v:=(.tup [(.agg [(.v (.int .i64 (sumG (cI W) (loF (bdT (q30_24 A B L W ya yf yl yw) (rdB (cI A) A.length (cR L) (cB B) W.length W.length).fst (rdB (cI A) A.length (cR L) (cB B) W.length W.length).snd)) W.length))),(.v (.int .i64 (sumG (cI W) (hiF (bdT (q30_24 A B L W ya yf yl yw) (rdB (cI A) A.length (cR L) (cB B) W.length W.length).fst (rdB (cI A) A.length (cR L) (cB B) W.length W.length).snd)) W.length)))]),(.v (.int .i64 (.ofNat 0)))])) (ps:=[(!eqI ((0:Int)) 0)=false,FreeL (cI A),FreeL (cR L),FreeL (cB B),FreeL (cI W),IsT95 95,IsLampK 1 2 1 1 (cI A) A.length (cR L) L.length (cB B) B.length (cI W) W.length,ZK A L B W,IsBdK (q30_24 A B L W ya yf yl yw) (bdT (q30_24 A B L W ya yf yl yw) (rdB (cI A) A.length (cR L) (cB B) W.length W.length).fst (rdB (cI A) A.length (cR L) (cB B) W.length W.length).snd),FreeL (cI A),FreeL (cR L),FreeL (cB B),FreeL (cI W),IsT95 95,IsLampK 1 2 1 1 (cI A) A.length (cR L) L.length (cB B) B.length (cI W) W.length,ZK A L B W,IsBdK (q30_24 A B L W ya yf yl yw) (bdT (q30_24 A B L W ya yf yl yw) (rdB (cI A) A.length (cR L) (cB B) W.length W.length).fst (rdB (cI A) A.length (cR L) (cB B) W.length W.length).snd)]) [.go,.go,.b false,.go,.go,.go,.go,.go,.go,.go,.go,.go,.go,.go,.go,.go,.go,.go,.go,.go] (by kernel_rfl) (by kernel_rfl) ⟨rfl,(freeL_plain (cI_plain A)),(freeL_plain (cR_plain L)),(freeL_plain (cB_plain B)),(freeL_plain (cI_plain W)),rfl,⟨rfl,rfl,rfl,rfl,A,L,B,W,rfl,rfl,rfl,rfl,rfl,rfl,rfl,rfl⟩,hz,(isBdK_lamp hz),(freeL_plain (cI_plain A)),(freeL_plain (cR_plain L)),(freeL_plain (cB_plain B)),(freeL_plain (cI_plain W)),rfl,⟨rfl,rfl,rfl,rfl,A,L,B,W,rfl,rfl,rfl,rfl,rfl,rfl,rfl,rfl⟩,hz,(isBdK_lamp hz),trivial⟩ rfl)
theorem spn_6 (ya yl yf yw:Value) (A:List Int) (L:PR) (B:List Bool) (W:List Int) (hf:fdAll (cB B) (cR L) A.length=none) (Q0:(q30_27 A B L W)=true) (w:World):Goes pg 23 spnK5 ((q30_13 A B L W ya yf yl yw)) w (q30_6 A B L W w):=by
 obtain ⟨hcl_A,hcl_L,hcl_B,hcl_W⟩:=hcZ30 A B L W
 have Q2:=eqI_true Q0
 have hz:=Q2
 refine goes_spineQ (ι:=Unit) (T:=fun _:Unit=>(q30_8 A B L W ya yf yl yw)) (R:=fun _:Unit=>True) (by kernel_rfl) (goes_rg (by kernel_rfl) (goesL_toldC cm (known_bn) 200 1 (T1:=⟨[(2,(.ptr 1 0)),(14,(q30_22 A B L W ya yf yl yw))],[],2,[q30_26]⟩) (e:=.normal) (ps:=[]) [.go] (by kernel_rfl) (by kernel_rfl) (by kernel_rfl) trivial (goesL_callT (ι:=Unit) (T1:=(q30_16 A B L W ya yf yl yw)) (T2:=(fun _:Unit=>(q30_9 A B L W ya yf yl yw))) (T3:=fun _:Unit=>⟨[(2,(.ptr 1 0)),(15,(.tup [(.agg (q30_17 A B L W ya yf yl yw)),(.v (.int .i64 (.ofNat 0)))]))],[],4,[q30_26]⟩) (R:=(fun _:Unit=>True)) (k:=62) (szk:=15) (by kernel_rfl) Try.func62 (by kernel_rfl) (by kernel_rfl) (by kernel_rfl) (by kernel_rfl) (fun v eb ec=>spnc4_2 ya yl yf yw A L B W hf Q0 v eb ec) (fun _ _=>by kernel_rfl) (fun _ hR=>goesL_toldC cm (known_bn) 200 6 (T1:=(q30_8 A B L W ya yf yl yw)) (e:=.normal) (ps:=[]) [.go,.go,.go,.go,.go,.go] (by kernel_rfl) (by kernel_rfl) (by kernel_rfl) trivial (goesL_endQ () hR (by kernel_rfl) (holds_view (by kernel_rfl) (by kernel_rfl) (by kernel_rfl) (by kernel_rfl))))))) (fun _ hxR=>spn_8 ya yl yf yw A L B W hf Q0  w)
theorem spn_4 (ya yl yf yw:Value) (A:List Int) (L:PR) (B:List Bool) (W:List Int) (hf:fdAll (cB B) (cR L) A.length=none) (w:World):Goes pg 23 spnK3 ((q30_13 A B L W ya yf yl yw)) w (OutR pg Try.f27 23 (.tuple #[.agg #[.int .i64 (spV (cI A) A.length (cR L) L.length (cB B) B.length (cI W) W.length 0 (sumG (cI W) (rdB (cI A) A.length (cR L) (cB B) W.length W.length).1 W.length)),.int .i64 (spV (cI A) A.length (cR L) L.length (cB B) B.length (cI W) W.length 0 (sumG (cI W) (rdB (cI A) A.length (cR L) (cB B) W.length W.length).2 W.length))],.int .i64 (spE (cI A) A.length (cR L) L.length (cB B) B.length (cI W) W.length 0)]) w):=by
 obtain ⟨hcl_A,hcl_L,hcl_B,hcl_W⟩:=hcZ30 A B L W
 rcases bE (eqI (clE (cI A) A.length (cR L) L.length B.length (cI W) W.length) 0) with Q0 | Q0
 ·skip
  have Q2:=eqI_true Q0
  have hz:=Q2
  exact goes_spine (T':=(q30_13 A B L W ya yf yl yw)) (by kernel_rfl) (gT cm (known_bn) 200 (T':=(q30_13 A B L W ya yf yl yw)) (e:=.normal) (ps:=[IsLampK 1 2 1 1 (cI A) A.length (cR L) L.length (cB B) B.length (cI W) W.length,(!eqI (clE (cI A) A.length (cR L) L.length B.length (cI W) W.length) 0)=false]) [.go,.go,.go,.go,.b false] (by kernel_rfl) (by kernel_rfl) ⟨⟨rfl,rfl,rfl,rfl,A,L,B,W,rfl,rfl,rfl,rfl,rfl,rfl,rfl,rfl⟩,(by rw [Q0]; rfl),trivial⟩ rfl) (spn_6 ya yl yf yw A L B W hf Q0 w)
 ·skip
  have Q2:=eqI_false Q0
  have hnz:=Q2
  exact goes_eqR (r:=.tuple #[.agg #[(.int .i64 0),(.int .i64 0)],(.int .i64 (clE (cI A) A.length (cR L) L.length B.length (cI W) W.length))]) (by rw [spE_lamp hnz,spV_lamp hnz,spV_lamp hnz]) (goes_out cm (known_bn) 200 (v:=(.tup [(.agg [(.v (.int .i64 (.ofNat 0))),(.v (.int .i64 (.ofNat 0)))]),(.v (.int .i64 (clE (cI A) A.length (cR L) L.length B.length (cI W) W.length)))])) (ps:=[IsLampK 1 2 1 1 (cI A) A.length (cR L) L.length (cB B) B.length (cI W) W.length,(!eqI (clE (cI A) A.length (cR L) L.length B.length (cI W) W.length) 0)=true]) [.go,.go,.go,.go,.b true,.go,.go,.go,.go] (by kernel_rfl) (by kernel_rfl) ⟨⟨rfl,rfl,rfl,rfl,A,L,B,W,rfl,rfl,rfl,rfl,rfl,rfl,rfl,rfl⟩,(by rw [Q0]; rfl),trivial⟩ rfl)
theorem spn_2 (ya yl yf yw:Value) (A:List Int) (L:PR) (B:List Bool) (W:List Int) (hf:fdAll (cB B) (cR L) A.length=none) (w:World):Goes pg 23 spnK1 (⟨[(0,.agg (q30_25 A B L W ya yf yl yw))],[],0,[]⟩) w (q30_6 A B L W w):=by
 obtain ⟨hcl_A,hcl_L,hcl_B,hcl_W⟩:=hcZ30 A B L W
 exact goes_spine (T':=(q30_13 A B L W ya yf yl yw)) (by kernel_rfl) (gT cm (known_bn) 200 (T':=(q30_13 A B L W ya yf yl yw)) (e:=.normal) (ps:=[]) [.go,.go,.go] (by kernel_rfl) (by kernel_rfl) trivial rfl) (spn_4 ya yl yf yw A L B W hf w)
theorem spn_g (ya yl yf yw:Value) (A:List Int) (L:PR) (B:List Bool) (W:List Int) (hf:fdAll (cB B) (cR L) A.length=none):GivesA pg 27 [.agg [.xl ya A.length 1 (cI A),.xl yl L.length 2 (cR L),.xl yf B.length 1 (cB B),.xl yw W.length 1 (cI W)]] (.tuple #[.agg #[.int .i64 (spV (cI A) A.length (cR L) L.length (cB B) B.length (cI W) W.length 0 (sumG (cI W) (rdB (cI A) A.length (cR L) (cB B) W.length W.length).1 W.length)),.int .i64 (spV (cI A) A.length (cR L) L.length (cB B) B.length (cI W) W.length 0 (sumG (cI W) (rdB (cI A) A.length (cR L) (cB B) W.length W.length).2 W.length))],.int .i64 (spE (cI A) A.length (cR L) L.length (cB B) B.length (cI W) W.length 0)]) :=
 givesA_parts 23 Try.func27 (by kernel_rfl) (by kernel_rfl) (by kernel_rfl) (fun w=>goes_less (by kernel_rfl) (by kernel_rfl) (by kernel_rfl) (by kernel_rfl) (spn_2 ya yl yf yw A L B W hf w))
def atdK1:Code:=bodyC Try.f29
def atdK3:Code:=tlC atdK1
def atdK5:Code:=tlC atdK3
def atdK7:Code:=tlC atdK5
def atdc6K1:Code:=bodyC Try.f62
theorem atdc6_2 (ya yl yf yw:Value) (A:List Int) (L:PR) (B:List Bool) (W:List Int) (d:Int) (hf:¬ fdAll (cB B) (cR L) A.length=none) (Q0:(eqI (clE (cI A) A.length (cR L) L.length B.length (cI W) W.length) 0)=true) (Q1:(ltI d (intAt (cI A) (0 * 1)))=false) (Q3:(ltI (intAt (cI A) ((((A.length:Nat):Int) - 1).toNat * 1)) d)=false) (v:BaseW) (eb:EB) (ec:EC):Goes pg 15 atdc6K1 ((q30_10 A B L W ya yf yl yw)) (bw v 2 eb ec) (BackQ 15 (fun _:Unit=>(q30_5 A B L W ya yf yl yw)) (fun _:Unit=>True) (bw v 2 eb ec)):=by
 obtain ⟨hcl_A,hcl_L,hcl_B,hcl_W⟩:=hcZ30 A B L W
 have Q2:=eqI_true Q0
 have hz:=Q2
 obtain ⟨hn,ha,he,hl,hw⟩:=clE_zero hz
 have hd0:=deg_bd hn ha he 0 (by omega)
 have hdn:=deg_bd hn ha he (A.length - 1) (by omega)
 have he2:=he
 unfold eqP degI at he2
 have e1:(((A.length:Nat):Int) - 1).toNat=A.length - 1:=by omega
 have Q5:=lF Q1
 have Q4:=lF Q3
 rw [e1] at Q4
 rcases bE (eqI (dI (cB B) (cR L) A.length) 0 && (eqI (dK (cB B) (cR L) A.length) 0 && true)) with Q7 | Q7
 ·skip
  have gx:=Q7
  simp only [Bool.and_true,Bool.and_eq_true,eqI_iff,decide_eq_true_eq] at gx
  have gy:=dK_zero.1 gx
  exact absurd gy hf
 ·skip
  have gy:¬ fdAll (cB B) (cR L) A.length=none:=fun q=>by have q2:=dK_zero.2 q; rw [q2.1,q2.2] at Q7; simp [eqI_self] at Q7
  exact gL isR_e (gT cm (known_bn) 200 (T':=(q30_5 A B L W ya yf yl yw)) (e:=.ret) (ps:=[IsLampK 1 2 1 1 (cI A) A.length (cR L) L.length (cB B) B.length (cI W) W.length,ZK A L B W,(!(eqI (dI (cB B) (cR L) A.length) 0 && (eqI (dK (cB B) (cR L) A.length) 0 && true)))=true]) [.go,.go,.go,.go,.go,.go,.b true,.go,.go,.go] (by kernel_rfl) (by kernel_rfl) ⟨⟨rfl,rfl,rfl,rfl,A,L,B,W,rfl,rfl,rfl,rfl,rfl,rfl,rfl,rfl⟩,hz,(by rw [Q7]; rfl),trivial⟩ rfl) (en_back (()) (show True from trivial) rfl)
def atdK9:Code:=tlC atdK7
theorem atd_10 (ya yl yf yw:Value) (A:List Int) (L:PR) (B:List Bool) (W:List Int) (d:Int) (hf:¬ fdAll (cB B) (cR L) A.length=none) (Q0:(q30_27 A B L W)=true) (Q1:(ltI d (intAt (cI A) (0 * 1)))=false) (Q3:(ltI (intAt (cI A) ((((A.length:Nat):Int) - 1).toNat * 1)) d)=false) (w:World):Goes pg 44 atdK9 ((q30_3 A B L W d ya yf yl yw)) w (q30_2 A B L W d w):=by
 obtain ⟨hcl_A,hcl_L,hcl_B,hcl_W⟩:=hcZ30 A B L W
 have Q2:=eqI_true Q0
 have hz:=Q2
 obtain ⟨hn,ha,he,hl,hw⟩:=clE_zero hz
 have hd0:=deg_bd hn ha he 0 (by omega)
 have hdn:=deg_bd hn ha he (A.length - 1) (by omega)
 have he2:=he
 unfold eqP degI at he2
 have e1:(((A.length:Nat):Int) - 1).toNat=A.length - 1:=by omega
 have Q5:=lF Q1
 have Q4:=lF Q3
 rw [e1] at Q4
 exact goes_eqR (r:=.tuple #[.agg #[(.int .i64 0),(.int .i64 0)],(.int .i64 21)]) (by have q:dgE (cI A) A.length d=0:=if_pos ⟨by omega,by omega⟩; rw [q,spE_doubt hz hf,spV_doubt hf,spV_doubt hf]) (goes_out cm (known_bn) 200 (v:=(.tup [(.agg [(.v (.int .i64 (.ofNat 0))),(.v (.int .i64 (.ofNat 0)))]),(.v (.int .i64 (.ofNat 21)))])) (ps:=[(!eqI ((21:Int)) 0)=true]) [.go,.go,.b true,.go,.go,.go,.go] (by kernel_rfl) (by kernel_rfl) ⟨rfl,trivial⟩ rfl)
theorem atd_8 (ya yl yf yw:Value) (A:List Int) (L:PR) (B:List Bool) (W:List Int) (d:Int) (hf:¬ fdAll (cB B) (cR L) A.length=none) (Q0:(q30_27 A B L W)=true) (Q1:(ltI d (intAt (cI A) (0 * 1)))=false) (Q3:(ltI (intAt (cI A) ((((A.length:Nat):Int) - 1).toNat * 1)) d)=false) (w:World):Goes pg 44 atdK7 ((q30_11 A B L W d ya yf yl yw)) w (q30_2 A B L W d w):=by
 obtain ⟨hcl_A,hcl_L,hcl_B,hcl_W⟩:=hcZ30 A B L W
 have Q2:=eqI_true Q0
 have hz:=Q2
 obtain ⟨hn,ha,he,hl,hw⟩:=clE_zero hz
 have hd0:=deg_bd hn ha he 0 (by omega)
 have hdn:=deg_bd hn ha he (A.length - 1) (by omega)
 have he2:=he
 unfold eqP degI at he2
 have e1:(((A.length:Nat):Int) - 1).toNat=A.length - 1:=by omega
 have Q5:=lF Q1
 have Q4:=lF Q3
 rw [e1] at Q4
 refine goes_spineQ (ι:=Unit) (T:=fun _:Unit=>(q30_3 A B L W d ya yf yl yw)) (R:=fun _:Unit=>True) (by kernel_rfl) (goes_rg (by kernel_rfl) (goesL_toldC cm (known_bn) 200 1 (T1:=(q30_7 A B L W d ya yf yl yw)) (e:=.normal) (ps:=[]) [.go] (by kernel_rfl) (by kernel_rfl) (by kernel_rfl) trivial (goesL_callT (ι:=Unit) (T1:=(q30_10 A B L W ya yf yl yw)) (T2:=(fun _:Unit=>(q30_5 A B L W ya yf yl yw))) (T3:=fun _:Unit=>⟨[(1,(.v (.int .i64 (d)))),(2,(.ptr 0 0)),(4,(.ptr 1 0)),(33,(.tup [(.agg q30_19),(.v (.int .i64 (.ofNat 21)))]))],[],4,[(q30_20 A B L W ya yf yl yw),q30_26]⟩) (R:=(fun _:Unit=>True)) (k:=62) (szk:=15) (by kernel_rfl) Try.func62 (by kernel_rfl) (by kernel_rfl) (by kernel_rfl) (by kernel_rfl) (fun v eb ec=>atdc6_2 ya yl yf yw A L B W d hf Q0 Q1 Q3 v eb ec) (fun _ _=>by kernel_rfl) (fun _ hR=>goesL_toldC cm (known_bn) 200 6 (T1:=(q30_3 A B L W d ya yf yl yw)) (e:=.normal) (ps:=[]) [.go,.go,.go,.go,.go,.go] (by kernel_rfl) (by kernel_rfl) (by kernel_rfl) trivial (goesL_endQ () hR (by kernel_rfl) (holds_view (by kernel_rfl) (by kernel_rfl) (by kernel_rfl) (by kernel_rfl))))))) (fun _ hxR=>atd_10 ya yl yf yw A L B W d hf Q0 Q1 Q3  w)
theorem atd_6 (ya yl yf yw:Value) (A:List Int) (L:PR) (B:List Bool) (W:List Int) (d:Int) (hf:¬ fdAll (cB B) (cR L) A.length=none) (Q0:(q30_27 A B L W)=true) (w:World):Goes pg 44 atdK5 ((q30_11 A B L W d ya yf yl yw)) w (q30_2 A B L W d w):=by
 obtain ⟨hcl_A,hcl_L,hcl_B,hcl_W⟩:=hcZ30 A B L W
 have Q2:=eqI_true Q0
 have hz:=Q2
 obtain ⟨hn,ha,he,hl,hw⟩:=clE_zero hz
 have hd0:=deg_bd hn ha he 0 (by omega)
 have hdn:=deg_bd hn ha he (A.length - 1) (by omega)
 have he2:=he
 unfold eqP degI at he2
 have e1:(((A.length:Nat):Int) - 1).toNat=A.length - 1:=by omega
 rcases bE (ltI d (intAt (cI A) (0 * 1))) with Q1 | Q1
 ·skip
  have Q5:=lT Q1
  exact goes_eqR (r:=.tuple #[.agg #[(.int .i64 0),(.int .i64 0)],(.int .i64 3)]) (by have q:dgE (cI A) A.length d=3:=if_neg (fun q=>by omega); rw [q,spE_arg hz (by decide),spV_arg (by decide),spV_arg (by decide)]) (goes_out cm (known_bn) 200 (v:=(.tup [(.agg [(.v (.int .i64 (.ofNat 0))),(.v (.int .i64 (.ofNat 0)))]),(.v (.int .i64 (.ofNat 3)))])) (ps:=[0 < A.length,loadL pg (cI A) (0 * 1) 2=some (.v (.int .i64 (intAt (cI A) (0 * 1)))),inR .i64 (((A.length:Nat):Int) - 1),(0:Int)≤((A.length:Nat):Int) - 1,(((A.length:Nat):Int) - 1).toNat < A.length,loadL pg (cI A) ((((A.length:Nat):Int) - 1).toNat * 1) 2=some (.v (.int .i64 (intAt (cI A) ((((A.length:Nat):Int) - 1).toNat * 1)))),(!ltI d (intAt (cI A) (0 * 1)))=false,false=false,false=false,(!false)=true]) [.go,.go,.go,.sym,.sym,.go,.go,.go,.go,.go,.go,.nat,.sym,.go,.go,.go,.go,.go,.b false,.b false,.b false,.go,.go,.go,.b true,.go,.go,.go] (by kernel_rfl) (by kernel_rfl) ⟨(by omega),(cI_ld (by omega) 2 (u2) rfl),(iRZ30 (by omega) (by omega)),(by omega),(by omega),(cI_ld (by omega) 2 (u2) rfl),(by rw [Q1]; rfl),rfl,rfl,rfl,trivial⟩ rfl)
 ·skip
  have Q5:=lF Q1
  rcases bE (ltI (intAt (cI A) ((((A.length:Nat):Int) - 1).toNat * 1)) d) with Q3 | Q3
  ·skip
   have Q4:=lT Q3
   rw [e1] at Q4
   exact goes_eqR (r:=.tuple #[.agg #[(.int .i64 0),(.int .i64 0)],(.int .i64 3)]) (by have q:dgE (cI A) A.length d=3:=if_neg (fun q=>by omega); rw [q,spE_arg hz (by decide),spV_arg (by decide),spV_arg (by decide)]) (goes_out cm (known_bn) 200 (v:=(.tup [(.agg [(.v (.int .i64 (.ofNat 0))),(.v (.int .i64 (.ofNat 0)))]),(.v (.int .i64 (.ofNat 3)))])) (ps:=[0 < A.length,loadL pg (cI A) (0 * 1) 2=some (.v (.int .i64 (intAt (cI A) (0 * 1)))),inR .i64 (((A.length:Nat):Int) - 1),(0:Int)≤((A.length:Nat):Int) - 1,(((A.length:Nat):Int) - 1).toNat < A.length,loadL pg (cI A) ((((A.length:Nat):Int) - 1).toNat * 1) 2=some (.v (.int .i64 (intAt (cI A) ((((A.length:Nat):Int) - 1).toNat * 1)))),(!ltI d (intAt (cI A) (0 * 1)))=true,true=true,true=true,(!!ltI (intAt (cI A) ((((A.length:Nat):Int) - 1).toNat * 1)) d)=true]) [.go,.go,.go,.sym,.sym,.go,.go,.go,.go,.go,.go,.nat,.sym,.go,.go,.go,.go,.go,.b true,.go,.b true,.go,.b true,.go,.go,.go,.go,.b true,.go,.go,.go] (by kernel_rfl) (by kernel_rfl) ⟨(by omega),(cI_ld (by omega) 2 (u2) rfl),(iRZ30 (by omega) (by omega)),(by omega),(by omega),(cI_ld (by omega) 2 (u2) rfl),(by rw [Q1]; rfl),rfl,rfl,(by rw [Q3]; rfl),trivial⟩ rfl)
  ·skip
   have Q4:=lF Q3
   rw [e1] at Q4
   exact goes_spine (T':=(q30_11 A B L W d ya yf yl yw)) (by kernel_rfl) (gT cm (known_bn) 200 (T':=(q30_11 A B L W d ya yf yl yw)) (e:=.normal) (ps:=[0 < A.length,loadL pg (cI A) (0 * 1) 2=some (.v (.int .i64 (intAt (cI A) (0 * 1)))),inR .i64 (((A.length:Nat):Int) - 1),(0:Int)≤((A.length:Nat):Int) - 1,(((A.length:Nat):Int) - 1).toNat < A.length,loadL pg (cI A) ((((A.length:Nat):Int) - 1).toNat * 1) 2=some (.v (.int .i64 (intAt (cI A) ((((A.length:Nat):Int) - 1).toNat * 1)))),(!ltI d (intAt (cI A) (0 * 1)))=true,true=true,true=true,(!!ltI (intAt (cI A) ((((A.length:Nat):Int) - 1).toNat * 1)) d)=false]) [.go,.go,.go,.sym,.sym,.go,.go,.go,.go,.go,.go,.nat,.sym,.go,.go,.go,.go,.go,.b true,.go,.b true,.go,.b true,.go,.go,.go,.go,.b false] (by kernel_rfl) (by kernel_rfl) ⟨(by omega),(cI_ld (by omega) 2 (u2) rfl),(iRZ30 (by omega) (by omega)),(by omega),(by omega),(cI_ld (by omega) 2 (u2) rfl),(by rw [Q1]; rfl),rfl,rfl,(by rw [Q3]; rfl),trivial⟩ rfl) (atd_8 ya yl yf yw A L B W d hf Q0 Q1 Q3 w)
def atnK1:Code:=bodyC Try.f29
def atnK3:Code:=tlC atnK1
def atnK5:Code:=tlC atnK3
def atnK7:Code:=tlC atnK5
def atnc6K1:Code:=bodyC Try.f62
theorem atnc6_2 (ya yl yf yw:Value) (A:List Int) (L:PR) (B:List Bool) (W:List Int) (d:Int) (hf:fdAll (cB B) (cR L) A.length=none) (Q0:(eqI (clE (cI A) A.length (cR L) L.length B.length (cI W) W.length) 0)=true) (Q1:(ltI d (intAt (cI A) (0 * 1)))=false) (Q3:(ltI (intAt (cI A) ((((A.length:Nat):Int) - 1).toNat * 1)) d)=false) (v:BaseW) (eb:EB) (ec:EC):Goes pg 15 atnc6K1 ((q30_10 A B L W ya yf yl yw)) (bw v 2 eb ec) (BackQ 15 (fun _:Unit=>(q30_4 A B L W ya yf yl yw)) (fun _:Unit=>True) (bw v 2 eb ec)):=by
 obtain ⟨hcl_A,hcl_L,hcl_B,hcl_W⟩:=hcZ30 A B L W
 have Q2:=eqI_true Q0
 have hz:=Q2
 obtain ⟨hn,ha,he,hl,hw⟩:=clE_zero hz
 have hd0:=deg_bd hn ha he 0 (by omega)
 have hdn:=deg_bd hn ha he (A.length - 1) (by omega)
 have he2:=he
 unfold eqP degI at he2
 have e1:(((A.length:Nat):Int) - 1).toNat=A.length - 1:=by omega
 have Q5:=lF Q1
 have Q4:=lF Q3
 rw [e1] at Q4
 rcases bE (eqI (dI (cB B) (cR L) A.length) 0 && (eqI (dK (cB B) (cR L) A.length) 0 && true)) with Q8 | Q8
 ·skip
  have gx:=Q8
  simp only [Bool.and_true,Bool.and_eq_true,eqI_iff,decide_eq_true_eq] at gx
  have gy:=dK_zero.1 gx
  exact gL isR_e (gK cm (known_bn) 200 (T':=(q30_4 A B L W ya yf yl yw)) (e:=.ret) (m:=5) (ps:=[IsLampK 1 2 1 1 (cI A) A.length (cR L) L.length (cB B) B.length (cI W) W.length,ZK A L B W,(!(eqI (dI (cB B) (cR L) A.length) 0 && (eqI (dK (cB B) (cR L) A.length) 0 && true)))=false,IsT95 95,IsLampK 1 2 1 1 (cI A) A.length (cR L) L.length (cB B) B.length (cI W) W.length,ZK A L B W,IsT95 95,IsLampK 1 2 1 1 (cI A) A.length (cR L) L.length (cB B) B.length (cI W) W.length,IsOpR (q30_24 A B L W ya yf yl yw) (bdT (q30_24 A B L W ya yf yl yw) (opA (cI A) (cR L) A.length).fst (opA (cI A) (cR L) A.length).snd) (opA (cI A) (cR L) A.length),ZK A L B W]) [.go,.go,.go,.go,.go,.go,.b false,.go,.go,.go,.go,.go,.go,.go] (by kernel_rfl) (by kernel_rfl) ⟨⟨rfl,rfl,rfl,rfl,A,L,B,W,rfl,rfl,rfl,rfl,rfl,rfl,rfl,rfl⟩,hz,(by rw [Q8]; rfl),rfl,⟨rfl,rfl,rfl,rfl,A,L,B,W,rfl,rfl,rfl,rfl,rfl,rfl,rfl,rfl⟩,hz,rfl,⟨rfl,rfl,rfl,rfl,A,L,B,W,rfl,rfl,rfl,rfl,rfl,rfl,rfl,rfl⟩,(isOpR_of rfl),hz,trivial⟩ rfl (by show 4≤5; decide) ⟨⟨nb_ptr (by show 3 < 4; decide),nb_v _,trivial⟩,⟨⟨by show 0 < 4; decide,nbb_cells (nb_cons (nb_xl (cI_plain A)) (nb_cons (nb_xl (cR_plain L)) (nb_cons (nb_xl (cB_plain B)) (nb_cons (nb_xl (cI_plain W)) (fun _ hz=>absurd hz List.not_mem_nil)))))⟩,⟨by show 1 < 4; decide,nbb_cells (nb_cons (nb_v _) (nb_cons (nb_v _) (fun _ hz=>absurd hz List.not_mem_nil)))⟩,⟨by show 3 < 4; decide,nbb_cells (nbA_bdT (nb_cons (nb_xl (cI_plain A)) (nb_cons (nb_xl (cR_plain L)) (nb_cons (nb_xl (cB_plain B)) (nb_cons (nb_xl (cI_plain W)) (fun _ hz=>absurd hz List.not_mem_nil))))))⟩,trivial⟩,rfl⟩ (by show 2≤4; decide)) (en_back (()) (show True from trivial) rfl)
 ·skip
  have gy:¬ fdAll (cB B) (cR L) A.length=none:=fun q=>by have q2:=dK_zero.2 q; rw [q2.1,q2.2] at Q8; simp [eqI_self] at Q8
  exact absurd hf gy
def atnK9:Code:=tlC atnK7
theorem atn_10 (ya yl yf yw:Value) (A:List Int) (L:PR) (B:List Bool) (W:List Int) (d:Int) (hf:fdAll (cB B) (cR L) A.length=none) (Q0:(q30_27 A B L W)=true) (Q1:(ltI d (intAt (cI A) (0 * 1)))=false) (Q3:(ltI (intAt (cI A) ((((A.length:Nat):Int) - 1).toNat * 1)) d)=false) (w:World):Goes pg 44 atnK9 ((q30_1 A B L W d ya yf yl yw)) w (q30_2 A B L W d w):=by
 obtain ⟨hcl_A,hcl_L,hcl_B,hcl_W⟩:=hcZ30 A B L W
 have Q2:=eqI_true Q0
 have hz:=Q2
 obtain ⟨hn,ha,he,hl,hw⟩:=clE_zero hz
 have hd0:=deg_bd hn ha he 0 (by omega)
 have hdn:=deg_bd hn ha he (A.length - 1) (by omega)
 have he2:=he
 unfold eqP degI at he2
 have e1:(((A.length:Nat):Int) - 1).toNat=A.length - 1:=by omega
 have Q5:=lF Q1
 have Q4:=lF Q3
 rw [e1] at Q4
 exact goes_eqR (r:=.tuple #[.agg #[(.int .i64 (intAt (q30_15 A B L W ya yf yl yw) (0 + 4 + 0 + (d - intAt (cI A) (0 * 1)).toNat * 1))),(.int .i64 (intAt (q30_15 A B L W ya yf yl yw) (0 + 4 + 91 + (d - intAt (cI A) (0 * 1)).toNat * 1)))],(.int .i64 0)]) (by have q:dgE (cI A) A.length d=0:=if_pos ⟨by omega,by omega⟩; rw [q,spE_ok hz hf,spV_ok hz hf,spV_ok hz hf,bdT_lo (j:=(d - intAt (cI A) (0 * 1)).toNat) rfl (by omega) (by omega),bdT_hi (j:=(d - intAt (cI A) (0 * 1)).toNat) rfl (by omega) (by omega)]) (goes_out cm (known_bn) 200 (v:=(.tup [(.agg [(.v (.int .i64 (intAt (q30_15 A B L W ya yf yl yw) (0 + 4 + 0 + (d - intAt (cI A) (0 * 1)).toNat * 1)))),(.v (.int .i64 (intAt (q30_15 A B L W ya yf yl yw) (0 + 4 + 91 + (d - intAt (cI A) (0 * 1)).toNat * 1))))]),(.v (.int .i64 (.ofNat 0)))])) (ps:=[(!eqI ((0:Int)) 0)=false,0 < A.length,loadL pg (cI A) (0 * 1) 2=some (.v (.int .i64 (intAt (cI A) (0 * 1)))),inR .i64 (d - intAt (cI A) (0 * 1)),0≤d - intAt (cI A) (0 * 1),(d - intAt (cI A) (0 * 1)).toNat < 91,loadL pg (q30_15 A B L W ya yf yl yw) (0 + 4 + 0 + (d - intAt (cI A) (0 * 1)).toNat * 1) 2=some (.v (.int .i64 (intAt (q30_15 A B L W ya yf yl yw) (0 + 4 + 0 + (d - intAt (cI A) (0 * 1)).toNat * 1)))),0≤d - intAt (cI A) (0 * 1),(d - intAt (cI A) (0 * 1)).toNat < 91,loadL pg (q30_15 A B L W ya yf yl yw) (0 + 4 + 91 + (d - intAt (cI A) (0 * 1)).toNat * 1) 2=some (.v (.int .i64 (intAt (q30_15 A B L W ya yf yl yw) (0 + 4 + 91 + (d - intAt (cI A) (0 * 1)).toNat * 1))))]) [.go,.go,.b false,.go,.go,.go,.go,.go,.go,.go,.sym,.sym,.go,.go,.go,.go,.go,.go,.go,.go,.nat,.sym,.go,.go,.go,.go,.go,.nat,.sym,.go,.go,.go,.go] (by kernel_rfl) (by kernel_rfl) ⟨rfl,(by omega),(cI_ld (by omega) 2 (u2) rfl),(iRZ30 (by omega) (by omega)),(by omega),(by omega),(bdT_ld rfl (by omega) (by omega) 2 (u2) rfl),(by omega),(by omega),(bdT_ld rfl (by omega) (by omega) 2 (u2) rfl),trivial⟩ rfl)
theorem atn_8 (ya yl yf yw:Value) (A:List Int) (L:PR) (B:List Bool) (W:List Int) (d:Int) (hf:fdAll (cB B) (cR L) A.length=none) (Q0:(q30_27 A B L W)=true) (Q1:(ltI d (intAt (cI A) (0 * 1)))=false) (Q3:(ltI (intAt (cI A) ((((A.length:Nat):Int) - 1).toNat * 1)) d)=false) (w:World):Goes pg 44 atnK7 ((q30_11 A B L W d ya yf yl yw)) w (q30_2 A B L W d w):=by
 obtain ⟨hcl_A,hcl_L,hcl_B,hcl_W⟩:=hcZ30 A B L W
 have Q2:=eqI_true Q0
 have hz:=Q2
 obtain ⟨hn,ha,he,hl,hw⟩:=clE_zero hz
 have hd0:=deg_bd hn ha he 0 (by omega)
 have hdn:=deg_bd hn ha he (A.length - 1) (by omega)
 have he2:=he
 unfold eqP degI at he2
 have e1:(((A.length:Nat):Int) - 1).toNat=A.length - 1:=by omega
 have Q5:=lF Q1
 have Q4:=lF Q3
 rw [e1] at Q4
 refine goes_spineQ (ι:=Unit) (T:=fun _:Unit=>(q30_1 A B L W d ya yf yl yw)) (R:=fun _:Unit=>True) (by kernel_rfl) (goes_rg (by kernel_rfl) (goesL_toldC cm (known_bn) 200 1 (T1:=(q30_7 A B L W d ya yf yl yw)) (e:=.normal) (ps:=[]) [.go] (by kernel_rfl) (by kernel_rfl) (by kernel_rfl) trivial (goesL_callT (ι:=Unit) (T1:=(q30_10 A B L W ya yf yl yw)) (T2:=(fun _:Unit=>(q30_4 A B L W ya yf yl yw))) (T3:=fun _:Unit=>⟨[(1,(.v (.int .i64 (d)))),(2,(.ptr 0 0)),(4,(.ptr 1 0)),(33,(.tup [(.agg (q30_17 A B L W ya yf yl yw)),(.v (.int .i64 (.ofNat 0)))]))],[],4,[(q30_20 A B L W ya yf yl yw),q30_26]⟩) (R:=(fun _:Unit=>True)) (k:=62) (szk:=15) (by kernel_rfl) Try.func62 (by kernel_rfl) (by kernel_rfl) (by kernel_rfl) (by kernel_rfl) (fun v eb ec=>atnc6_2 ya yl yf yw A L B W d hf Q0 Q1 Q3 v eb ec) (fun _ _=>by kernel_rfl) (fun _ hR=>goesL_toldC cm (known_bn) 200 6 (T1:=(q30_1 A B L W d ya yf yl yw)) (e:=.normal) (ps:=[]) [.go,.go,.go,.go,.go,.go] (by kernel_rfl) (by kernel_rfl) (by kernel_rfl) trivial (goesL_endQ () hR (by kernel_rfl) (holds_view (by kernel_rfl) (by kernel_rfl) (by kernel_rfl) (by kernel_rfl))))))) (fun _ hxR=>atn_10 ya yl yf yw A L B W d hf Q0 Q1 Q3  w)
theorem atn_6 (ya yl yf yw:Value) (A:List Int) (L:PR) (B:List Bool) (W:List Int) (d:Int) (hf:fdAll (cB B) (cR L) A.length=none) (Q0:(q30_27 A B L W)=true) (w:World):Goes pg 44 atnK5 ((q30_11 A B L W d ya yf yl yw)) w (q30_2 A B L W d w):=by
 obtain ⟨hcl_A,hcl_L,hcl_B,hcl_W⟩:=hcZ30 A B L W
 have Q2:=eqI_true Q0
 have hz:=Q2
 obtain ⟨hn,ha,he,hl,hw⟩:=clE_zero hz
 have hd0:=deg_bd hn ha he 0 (by omega)
 have hdn:=deg_bd hn ha he (A.length - 1) (by omega)
 have he2:=he
 unfold eqP degI at he2
 have e1:(((A.length:Nat):Int) - 1).toNat=A.length - 1:=by omega
 rcases bE (ltI d (intAt (cI A) (0 * 1))) with Q1 | Q1
 ·skip
  have Q5:=lT Q1
  exact goes_eqR (r:=.tuple #[.agg #[(.int .i64 0),(.int .i64 0)],(.int .i64 3)]) (by have q:dgE (cI A) A.length d=3:=if_neg (fun q=>by omega); rw [q,spE_arg hz (by decide),spV_arg (by decide),spV_arg (by decide)]) (goes_out cm (known_bn) 200 (v:=(.tup [(.agg [(.v (.int .i64 (.ofNat 0))),(.v (.int .i64 (.ofNat 0)))]),(.v (.int .i64 (.ofNat 3)))])) (ps:=[0 < A.length,loadL pg (cI A) (0 * 1) 2=some (.v (.int .i64 (intAt (cI A) (0 * 1)))),inR .i64 (((A.length:Nat):Int) - 1),(0:Int)≤((A.length:Nat):Int) - 1,(((A.length:Nat):Int) - 1).toNat < A.length,loadL pg (cI A) ((((A.length:Nat):Int) - 1).toNat * 1) 2=some (.v (.int .i64 (intAt (cI A) ((((A.length:Nat):Int) - 1).toNat * 1)))),(!ltI d (intAt (cI A) (0 * 1)))=false,false=false,false=false,(!false)=true]) [.go,.go,.go,.sym,.sym,.go,.go,.go,.go,.go,.go,.nat,.sym,.go,.go,.go,.go,.go,.b false,.b false,.b false,.go,.go,.go,.b true,.go,.go,.go] (by kernel_rfl) (by kernel_rfl) ⟨(by omega),(cI_ld (by omega) 2 (u2) rfl),(iRZ30 (by omega) (by omega)),(by omega),(by omega),(cI_ld (by omega) 2 (u2) rfl),(by rw [Q1]; rfl),rfl,rfl,rfl,trivial⟩ rfl)
 ·skip
  have Q5:=lF Q1
  rcases bE (ltI (intAt (cI A) ((((A.length:Nat):Int) - 1).toNat * 1)) d) with Q3 | Q3
  ·skip
   have Q4:=lT Q3
   rw [e1] at Q4
   exact goes_eqR (r:=.tuple #[.agg #[(.int .i64 0),(.int .i64 0)],(.int .i64 3)]) (by have q:dgE (cI A) A.length d=3:=if_neg (fun q=>by omega); rw [q,spE_arg hz (by decide),spV_arg (by decide),spV_arg (by decide)]) (goes_out cm (known_bn) 200 (v:=(.tup [(.agg [(.v (.int .i64 (.ofNat 0))),(.v (.int .i64 (.ofNat 0)))]),(.v (.int .i64 (.ofNat 3)))])) (ps:=[0 < A.length,loadL pg (cI A) (0 * 1) 2=some (.v (.int .i64 (intAt (cI A) (0 * 1)))),inR .i64 (((A.length:Nat):Int) - 1),(0:Int)≤((A.length:Nat):Int) - 1,(((A.length:Nat):Int) - 1).toNat < A.length,loadL pg (cI A) ((((A.length:Nat):Int) - 1).toNat * 1) 2=some (.v (.int .i64 (intAt (cI A) ((((A.length:Nat):Int) - 1).toNat * 1)))),(!ltI d (intAt (cI A) (0 * 1)))=true,true=true,true=true,(!!ltI (intAt (cI A) ((((A.length:Nat):Int) - 1).toNat * 1)) d)=true]) [.go,.go,.go,.sym,.sym,.go,.go,.go,.go,.go,.go,.nat,.sym,.go,.go,.go,.go,.go,.b true,.go,.b true,.go,.b true,.go,.go,.go,.go,.b true,.go,.go,.go] (by kernel_rfl) (by kernel_rfl) ⟨(by omega),(cI_ld (by omega) 2 (u2) rfl),(iRZ30 (by omega) (by omega)),(by omega),(by omega),(cI_ld (by omega) 2 (u2) rfl),(by rw [Q1]; rfl),rfl,rfl,(by rw [Q3]; rfl),trivial⟩ rfl)
  ·skip
   have Q4:=lF Q3
   rw [e1] at Q4
   exact goes_spine (T':=(q30_11 A B L W d ya yf yl yw)) (by kernel_rfl) (gT cm (known_bn) 200 (T':=(q30_11 A B L W d ya yf yl yw)) (e:=.normal) (ps:=[0 < A.length,loadL pg (cI A) (0 * 1) 2=some (.v (.int .i64 (intAt (cI A) (0 * 1)))),inR .i64 (((A.length:Nat):Int) - 1),(0:Int)≤((A.length:Nat):Int) - 1,(((A.length:Nat):Int) - 1).toNat < A.length,loadL pg (cI A) ((((A.length:Nat):Int) - 1).toNat * 1) 2=some (.v (.int .i64 (intAt (cI A) ((((A.length:Nat):Int) - 1).toNat * 1)))),(!ltI d (intAt (cI A) (0 * 1)))=true,true=true,true=true,(!!ltI (intAt (cI A) ((((A.length:Nat):Int) - 1).toNat * 1)) d)=false]) [.go,.go,.go,.sym,.sym,.go,.go,.go,.go,.go,.go,.nat,.sym,.go,.go,.go,.go,.go,.b true,.go,.b true,.go,.b true,.go,.go,.go,.go,.b false] (by kernel_rfl) (by kernel_rfl) ⟨(by omega),(cI_ld (by omega) 2 (u2) rfl),(iRZ30 (by omega) (by omega)),(by omega),(by omega),(cI_ld (by omega) 2 (u2) rfl),(by rw [Q1]; rfl),rfl,rfl,(by rw [Q3]; rfl),trivial⟩ rfl) (atn_8 ya yl yf yw A L B W d hf Q0 Q1 Q3 w)
theorem atn_4 (ya yl yf yw:Value) (A:List Int) (L:PR) (B:List Bool) (W:List Int) (d:Int) (hf:fdAll (cB B) (cR L) A.length=none) (w:World):Goes pg 44 atnK3 ((q30_11 A B L W d ya yf yl yw)) w (OutR pg Try.f29 44 (.tuple #[.agg #[.int .i64 (spV (cI A) A.length (cR L) L.length (cB B) B.length (cI W) W.length (dgE (cI A) A.length d) ((rdB (cI A) A.length (cR L) (cB B) W.length W.length).1 (d - intAt (cI A) (0 * 1)).toNat)),.int .i64 (spV (cI A) A.length (cR L) L.length (cB B) B.length (cI W) W.length (dgE (cI A) A.length d) ((rdB (cI A) A.length (cR L) (cB B) W.length W.length).2 (d - intAt (cI A) (0 * 1)).toNat))],.int .i64 (spE (cI A) A.length (cR L) L.length (cB B) B.length (cI W) W.length (dgE (cI A) A.length d))]) w):=by
 obtain ⟨hcl_A,hcl_L,hcl_B,hcl_W⟩:=hcZ30 A B L W
 rcases bE (eqI (clE (cI A) A.length (cR L) L.length B.length (cI W) W.length) 0) with Q0 | Q0
 ·skip
  have Q2:=eqI_true Q0
  have hz:=Q2
  obtain ⟨hn,ha,he,hl,hw⟩:=clE_zero hz
  have hd0:=deg_bd hn ha he 0 (by omega)
  have hdn:=deg_bd hn ha he (A.length - 1) (by omega)
  have he2:=he
  unfold eqP degI at he2
  have e1:(((A.length:Nat):Int) - 1).toNat=A.length - 1:=by omega
  exact goes_spine (T':=(q30_11 A B L W d ya yf yl yw)) (by kernel_rfl) (gT cm (known_bn) 200 (T':=(q30_11 A B L W d ya yf yl yw)) (e:=.normal) (ps:=[IsLampK 1 2 1 1 (cI A) A.length (cR L) L.length (cB B) B.length (cI W) W.length,(!eqI (clE (cI A) A.length (cR L) L.length B.length (cI W) W.length) 0)=false]) [.go,.go,.go,.go,.b false] (by kernel_rfl) (by kernel_rfl) ⟨⟨rfl,rfl,rfl,rfl,A,L,B,W,rfl,rfl,rfl,rfl,rfl,rfl,rfl,rfl⟩,(by rw [Q0]; rfl),trivial⟩ rfl) (atn_6 ya yl yf yw A L B W d hf Q0 w)
 ·skip
  have Q2:=eqI_false Q0
  have hnz:=Q2
  exact goes_eqR (r:=.tuple #[.agg #[(.int .i64 0),(.int .i64 0)],(.int .i64 (clE (cI A) A.length (cR L) L.length B.length (cI W) W.length))]) (by rw [spE_lamp hnz,spV_lamp hnz,spV_lamp hnz]) (goes_out cm (known_bn) 200 (v:=(.tup [(.agg [(.v (.int .i64 (.ofNat 0))),(.v (.int .i64 (.ofNat 0)))]),(.v (.int .i64 (clE (cI A) A.length (cR L) L.length B.length (cI W) W.length)))])) (ps:=[IsLampK 1 2 1 1 (cI A) A.length (cR L) L.length (cB B) B.length (cI W) W.length,(!eqI (clE (cI A) A.length (cR L) L.length B.length (cI W) W.length) 0)=true]) [.go,.go,.go,.go,.b true,.go,.go,.go,.go] (by kernel_rfl) (by kernel_rfl) ⟨⟨rfl,rfl,rfl,rfl,A,L,B,W,rfl,rfl,rfl,rfl,rfl,rfl,rfl,rfl⟩,(by rw [Q0]; rfl),trivial⟩ rfl)
theorem atn_2 (ya yl yf yw:Value) (A:List Int) (L:PR) (B:List Bool) (W:List Int) (d:Int) (hf:fdAll (cB B) (cR L) A.length=none) (w:World):Goes pg 44 atnK1 (⟨[(0,.agg (q30_25 A B L W ya yf yl yw)),(1,.v (.int .i64 d))],[],0,[]⟩) w (q30_2 A B L W d w):=by
 obtain ⟨hcl_A,hcl_L,hcl_B,hcl_W⟩:=hcZ30 A B L W
 exact goes_spine (T':=(q30_11 A B L W d ya yf yl yw)) (by kernel_rfl) (gT cm (known_bn) 200 (T':=(q30_11 A B L W d ya yf yl yw)) (e:=.normal) (ps:=[]) [.go,.go,.go] (by kernel_rfl) (by kernel_rfl) trivial rfl) (atn_4 ya yl yf yw A L B W d hf w)
theorem atn_g (ya yl yf yw:Value) (A:List Int) (L:PR) (B:List Bool) (W:List Int) (d:Int) (hf:fdAll (cB B) (cR L) A.length=none):GivesA pg 29 [.agg [.xl ya A.length 1 (cI A),.xl yl L.length 2 (cR L),.xl yf B.length 1 (cB B),.xl yw W.length 1 (cI W)],.v (.int .i64 d)] (.tuple #[.agg #[.int .i64 (spV (cI A) A.length (cR L) L.length (cB B) B.length (cI W) W.length (dgE (cI A) A.length d) ((rdB (cI A) A.length (cR L) (cB B) W.length W.length).1 (d - intAt (cI A) (0 * 1)).toNat)),.int .i64 (spV (cI A) A.length (cR L) L.length (cB B) B.length (cI W) W.length (dgE (cI A) A.length d) ((rdB (cI A) A.length (cR L) (cB B) W.length W.length).2 (d - intAt (cI A) (0 * 1)).toNat))],.int .i64 (spE (cI A) A.length (cR L) L.length (cB B) B.length (cI W) W.length (dgE (cI A) A.length d))]) :=
 givesA_parts 44 Try.func29 (by kernel_rfl) (by kernel_rfl) (by kernel_rfl) (fun w=>goes_less (by kernel_rfl) (by kernel_rfl) (by kernel_rfl) (by kernel_rfl) (atn_2 ya yl yf yw A L B W d hf w))
end
end Go.Proofs.Ytldekgkjofgacaa
