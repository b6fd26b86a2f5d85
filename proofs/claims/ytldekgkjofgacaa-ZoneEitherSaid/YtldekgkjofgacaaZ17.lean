import Derived.Test.YtldekgkjofgacaaZ16
set_option linter.all false
/- The contradiction that is returned; oracles. -/
namespace Go.Proofs.Ytldekgkjofgacaa
open Go Ev
noncomputable section
def fdS:List AV→Option (Res1×List Prop):=fun vs =>
 match vs with
 | [.agg [.xl ya na k1 ca,.xl yl nl k2 cl,.xl yf nf k3 cf,.xl yw nw k4 cw]]=>some (.val (.agg [.v (.int .i64 (dI cf cl na)),.v (.int .i64 (dK cf cl na))]),[IsLampK k1 k2 k3 k4 ca na cl nl cf nf cw nw,clE ca na cl nl nf cw nw=0])
 | _=>none
def fdO:OrcH:=extOrc 60 fdS
theorem known_fd:Known pg (clsO fdO):=known_ext (fun vs r ps h hp=>by
 unfold fdS at h
 split at h
 ·cases h
  obtain ⟨⟨rfl,rfl,rfl,rfl,A,L,B,W,rfl,rfl,rfl,rfl,rfl,rfl,rfl,rfl⟩,hz,-⟩:=hp
  exact ⟨extL_cons ext_lamp extL_nil,_,rfl,fd_g _ _ _ _ A L B W hz⟩
 ·cases h)
def odbO:OrcH:=orO clO fdO
theorem known_odb:Known pg (clsO odbO):=known_or known_cl known_fd
def doI (A:List AV) (n:Nat) (L:List AV) (nl:Nat) (B:List AV) (nf:Nat) (W:List AV) (nw:Nat):Int:=if clE A n L nl nf W nw=0 then dI B L n else 0
def doK (A:List AV) (n:Nat) (L:List AV) (nl:Nat) (B:List AV) (nf:Nat) (W:List AV) (nw:Nat):Int:=if clE A n L nl nf W nw=0 then dK B L n else 0
def doE (A:List AV) (n:Nat) (L:List AV) (nl:Nat) (B:List AV) (nf:Nat) (W:List AV) (nw:Nat):Int:=if clE A n L nl nf W nw=0 then dE B L n else clE A n L nl nf W nw
def dbK1:Code:=bodyC Try.f25
set_option maxHeartbeats 2000000 in
theorem db_2 (ya yl yf yw:Value) (A:List Int) (L:PR) (B:List Bool) (W:List Int) (w:World):Goes pg 21 dbK1 (⟨[(0,.agg [.xl ya A.length 1 (cI A),.xl yl L.length 2 (cR L),.xl yf B.length 1 (cB B),.xl yw W.length 1 (cI W)])],[],0,[]⟩) w (OutR pg Try.f25 21 (.tuple #[.int .i64 (doI (cI A) A.length (cR L) L.length (cB B) B.length (cI W) W.length),.int .i64 (doK (cI A) A.length (cR L) L.length (cB B) B.length (cI W) W.length),.int .i64 (doE (cI A) A.length (cR L) L.length (cB B) B.length (cI W) W.length)]) w):=by
 have hcl_A:=cI_len A
 have hcl_L:=cR_len L
 have hcl_B:=cB_len B
 have hcl_W:=cI_len W
 rcases bE (eqI (clE (cI A) A.length (cR L) L.length B.length (cI W) W.length) 0) with hqdb3_1 | hqdb3_1
 ·skip
  have ghqdb3_1:=eqI_true hqdb3_1
  have hz:=ghqdb3_1
  rcases bE (eqI (dI (cB B) (cR L) A.length) 0 && (eqI (dK (cB B) (cR L) A.length) 0 && true)) with hqdb3_2 | hqdb3_2
  ·skip
   have gx:=hqdb3_2
   simp only [Bool.and_true,Bool.and_eq_true,eqI_iff,decide_eq_true_eq] at gx
   have gy:=dK_zero.1 gx
   exact gL isR_e (gT cm (known_odb) 200 (T':=⟨[(2,(.v (.int .i64 (.ofNat 0)))),(3,(.v (.int .i64 (.ofNat 0)))),(4,(.v (.int .i64 (.ofNat 5))))],[],2,[]⟩) (e:=.ret) (ps:=[IsLampK 1 2 1 1 (cI A) A.length (cR L) L.length (cB B) B.length (cI W) W.length,(!eqI (clE (cI A) A.length (cR L) L.length B.length (cI W) W.length) 0)=false,IsLampK 1 2 1 1 (cI A) A.length (cR L) L.length (cB B) B.length (cI W) W.length,ZK A L B W,(eqI (dI (cB B) (cR L) A.length) 0 && (eqI (dK (cB B) (cR L) A.length) 0 && true))=true]) [.go,.go,.go,.go,.go,.go,.go,.go,.b false,.go,.go,.go,.go,.go,.go,.b true,.go,.go,.go] (by kernel_rfl) (by kernel_rfl) ⟨⟨rfl,rfl,rfl,rfl,A,L,B,W,rfl,rfl,rfl,rfl,rfl,rfl,rfl,rfl⟩,(by rw [hqdb3_1]; rfl),⟨rfl,rfl,rfl,rfl,A,L,B,W,rfl,rfl,rfl,rfl,rfl,rfl,rfl,rfl⟩,hz,hqdb3_2,trivial⟩ rfl) (en_eq (r:=.tuple #[(.int .i64 0),(.int .i64 0),(.int .i64 5)]) (by unfold doI doK doE; rw [if_pos hz,if_pos hz,if_pos hz,(dK_zero.2 gy).1,(dK_zero.2 gy).2,dE_none gy]) (en_ret (v:=(.tup [(.v (.int .i64 (.ofNat 0))),(.v (.int .i64 (.ofNat 0))),(.v (.int .i64 (.ofNat 5)))])) (by kernel_rfl) rfl))
  ·skip
   have gy:¬ fdAll (cB B) (cR L) A.length=none:=fun q=>by have q2:=dK_zero.2 q; rw [q2.1,q2.2] at hqdb3_2; simp [eqI_self] at hqdb3_2
   exact gL isR_e (gT cm (known_odb) 200 (T':=⟨[(2,(.v (.int .i64 (dI (cB B) (cR L) A.length)))),(3,(.v (.int .i64 (dK (cB B) (cR L) A.length)))),(4,(.v (.int .i64 (.ofNat 0))))],[],2,[]⟩) (e:=.ret) (ps:=[IsLampK 1 2 1 1 (cI A) A.length (cR L) L.length (cB B) B.length (cI W) W.length,(!eqI (clE (cI A) A.length (cR L) L.length B.length (cI W) W.length) 0)=false,IsLampK 1 2 1 1 (cI A) A.length (cR L) L.length (cB B) B.length (cI W) W.length,ZK A L B W,(eqI (dI (cB B) (cR L) A.length) 0 && (eqI (dK (cB B) (cR L) A.length) 0 && true))=false]) [.go,.go,.go,.go,.go,.go,.go,.go,.b false,.go,.go,.go,.go,.go,.go,.b false,.go,.go,.go,.go,.go,.go,.go] (by kernel_rfl) (by kernel_rfl) ⟨⟨rfl,rfl,rfl,rfl,A,L,B,W,rfl,rfl,rfl,rfl,rfl,rfl,rfl,rfl⟩,(by rw [hqdb3_1]; rfl),⟨rfl,rfl,rfl,rfl,A,L,B,W,rfl,rfl,rfl,rfl,rfl,rfl,rfl,rfl⟩,hz,hqdb3_2,trivial⟩ rfl) (en_eq (r:=.tuple #[(.int .i64 (dI (cB B) (cR L) A.length)),(.int .i64 (dK (cB B) (cR L) A.length)),(.int .i64 0)]) (by unfold doI doK doE; rw [if_pos hz,if_pos hz,if_pos hz,dE_some gy]) (en_ret (v:=(.tup [(.v (.int .i64 (dI (cB B) (cR L) A.length))),(.v (.int .i64 (dK (cB B) (cR L) A.length))),(.v (.int .i64 (.ofNat 0)))])) (by kernel_rfl) rfl))
 ·skip
  have ghqdb3_1:=eqI_false hqdb3_1
  exact gL isR_e (gT cm (known_odb) 200 (T':=⟨[(2,(.v (.int .i64 (.ofNat 0)))),(3,(.v (.int .i64 (.ofNat 0)))),(4,(.v (.int .i64 (clE (cI A) A.length (cR L) L.length B.length (cI W) W.length))))],[],1,[]⟩) (e:=.ret) (ps:=[IsLampK 1 2 1 1 (cI A) A.length (cR L) L.length (cB B) B.length (cI W) W.length,(!eqI (clE (cI A) A.length (cR L) L.length B.length (cI W) W.length) 0)=true]) [.go,.go,.go,.go,.go,.go,.go,.go,.b true,.go,.go,.go,.go] (by kernel_rfl) (by kernel_rfl) ⟨⟨rfl,rfl,rfl,rfl,A,L,B,W,rfl,rfl,rfl,rfl,rfl,rfl,rfl,rfl⟩,(by rw [hqdb3_1]; rfl),trivial⟩ rfl) (en_eq (r:=.tuple #[(.int .i64 0),(.int .i64 0),(.int .i64 (clE (cI A) A.length (cR L) L.length B.length (cI W) W.length))]) (by unfold doI doK doE; rw [if_neg ghqdb3_1,if_neg ghqdb3_1,if_neg ghqdb3_1]) (en_ret (v:=(.tup [(.v (.int .i64 (.ofNat 0))),(.v (.int .i64 (.ofNat 0))),(.v (.int .i64 (clE (cI A) A.length (cR L) L.length B.length (cI W) W.length)))])) (by kernel_rfl) rfl))
theorem db_g (ya yl yf yw:Value) (A:List Int) (L:PR) (B:List Bool) (W:List Int):GivesA pg 25 [.agg [.xl ya A.length 1 (cI A),.xl yl L.length 2 (cR L),.xl yf B.length 1 (cB B),.xl yw W.length 1 (cI W)]] (.tuple #[.int .i64 (doI (cI A) A.length (cR L) L.length (cB B) B.length (cI W) W.length),.int .i64 (doK (cI A) A.length (cR L) L.length (cB B) B.length (cI W) W.length),.int .i64 (doE (cI A) A.length (cR L) L.length (cB B) B.length (cI W) W.length)]) :=
 givesA_parts 21 Try.func25 (by kernel_rfl) (by kernel_rfl) (by kernel_rfl) (fun w=>goes_less (by kernel_rfl) (by kernel_rfl) (by kernel_rfl) (by kernel_rfl) (db_2 ya yl yf yw A L B W w))
end
end Go.Proofs.Ytldekgkjofgacaa
