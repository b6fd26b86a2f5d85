import Derived.Test.YtnphldmnakbknaaS6
set_option maxHeartbeats 4000000
set_option linter.all false
/- newRoad. -/
namespace Go.Proofs.Ytnphldmnakbknaa
open Go Ev
noncomputable section
section
variable (C : List Int) (P : PL) (d : Int) (i : Nat) (n q : Int) (y z : Value)
abbrev qS7_11:Nat×Ev.AV:=(10,(.xl (z) (C.length) 1 (cI C)))
abbrev qS7_9:Nat×Ev.AV:=(11,(.v (.int .i64 C.length)))
abbrev qS7_10:Nat×Ev.AV:=(12,(.v (.int .i64 (((i + 1):Nat):Int))))
abbrev qS7_6:Nat×Ev.AB:=(1,(.cells (rdT [(.v (.int .i64 (.ofNat 0))),(.v (.int .i64 (.ofNat 0))),(.v (.int .i64 (.ofNat 0))),(.v (Value.slice none 0 0))] (fun _=>false)) 67))
abbrev qS7_1:Ev.Lit:=⟨[(4,(.ptr 1 0)),(5,(.ptr 2 0)),(qS7_11 C z),(qS7_9 C),(qS7_10 i)],[],3,[qS7_6,(2,(.cells (splice (rdT [(.v (.int .i64 (n))),(.v (.int .i64 (d))),(.v (.int .i64 (q))),(.xl (y) (P.length) 3 (cT P))] (stC (cI C) i)) (0 + 4 + (intAt (cI C) (i * 1)).toNat * 1) [(.v (.bool .true))]) 67))]⟩
abbrev qS7_7:Nat×Ev.AB:=(2,(.cells (rdT [(.v (.int .i64 (n))),(.v (.int .i64 (d))),(.v (.int .i64 (q))),(.xl (y) (P.length) 3 (cT P))] (fun _=>false)) 67))
abbrev qS7_2:Ev.Lit:=⟨[(4,(.ptr 1 0)),(5,(.ptr 2 0)),(qS7_11 C z),(qS7_9 C),(12,(.v (.int .i64 (.ofNat 0))))],[],3,[qS7_6,(qS7_7 P d n q y)]⟩
abbrev qS7_3:Ev.Lit:=⟨[(1,(.xl (z) (C.length) 1 (cI C))),(4,(.ptr 1 0)),(5,(.ptr 2 0))],[],3,[qS7_6,(qS7_7 P d n q y)]⟩
abbrev qS7_4:Ev.Lit:=⟨[(1,(.xl (z) (C.length) 1 (cI C))),(2,(.ptr 0 0)),(4,(.ptr 1 0))],[],2,[(0,(.cells [(.v (.int .i64 (n))),(.v (.int .i64 (d))),(.v (.int .i64 (q))),(.xl (y) (P.length) 3 (cT P))] 24)),qS7_6]⟩
abbrev qS7_5:Ev.Lit:=⟨[(4,(.ptr 1 0)),(5,(.ptr 2 0))],[],3,[qS7_6,(2,(.cells (rdT [(.v (.int .i64 (n))),(.v (.int .i64 (d))),(.v (.int .i64 (q))),(.xl (y) (P.length) 3 (cT P))] (stC (cI C) (C.length))) 67))]⟩
abbrev qS7_8:Ev.AB:=(.cells (rdT [(.v (.int .i64 (n))),(.v (.int .i64 (d))),(.v (.int .i64 (q))),(.xl (y) (P.length) 3 (cT P))] (stC (cI C) C.length)) 67)
end
def nrK1:Code:=bodyC Try.f41
def nrK3:Code:=tlC nrK1
def nrK6:Code:=tlC nrK3
def nrK9:Code:=tlC nrK6
def nrK10:Code:=(hdC nrK6)
def nrK12:Code:=tlC nrK10
def nrK16:Code:=loopC nrK12
theorem nr_19 (n d q:Int) (y:Value) (P:PL) (z:Value) (C:List Int) (hm:P.length≤24) (hC:C.length≤1000) (hch:chP (cI C) C.length P.length) (h0b:True) (hqnr18_1:(ltI C.length C.length)=false) (v:BaseW) (eb:EB) (ec:EC) (hs:LN):Goes pg 21 nrK9 ((qS7_5 C P d n q y)) (BaseW.H (bw v 0 eb ec) hs) (OutM pg Try.f41 21 ((.agg (rdT [.v (.int .i64 n),.v (.int .i64 d),.v (.int .i64 q),.xl y P.length 3 (cT P)] (stC (cI C) C.length)))) [] (bw v 0 eb ec)):=by
 have hcl_C:=cI_len C
 have ghqnr18_1:=lF hqnr18_1
 exact gL isR_e (gC cm (kN) 200 (T':=⟨[(4,(.ptr 0 0))],[],1,[(0,(qS7_8 C P d n q y))]⟩) (e:=.ret) (m:=3) (ps:=[]) [.go,.go] [1] [(.ptr 1 0)] [(qS7_8 C P d n q y)] (by kernel_rfl) (by kernel_rfl) trivial rfl rfl (by decide) rfl ⟨nr_ptr rfl,trivial⟩ ⟨⟨by show 0 < 1; decide,nrb_cells (nrl_free (freeL_rd _ _ _ _ _ _))⟩,trivial⟩) (en_eqM (r:=(.agg (rdT [(.v (.int .i64 (n))),(.v (.int .i64 (d))),(.v (.int .i64 (q))),(.xl (y) (P.length) 3 (cT P))] (stC (cI C) C.length)))) (ys:=[]) (by rfl) (by rfl) (en_retM (by kernel_rfl) (by kernel_rfl) rfl (.inr rfl)))
theorem nr_17 (n d q:Int) (y:Value) (P:PL) (z:Value) (C:List Int) (hm:P.length≤24) (hC:C.length≤1000) (hch:chP (cI C) C.length P.length) (i:Nat) (hi1:i≤C.length) (hi2:True) (v:BaseW) (eb:EB) (ec:EC) (hs:LN):Goes pg 21 nrK16 (⟨[(4,(.ptr 1 0)),(5,(.ptr 2 0)),(qS7_11 C z),(qS7_9 C),(12,(.v (.int .i64 i)))],[],3,[qS7_6,(2,(.cells (rdT [.v (.int .i64 n),.v (.int .i64 d),.v (.int .i64 q),.xl y P.length 3 (cT P)] (stC (cI C) i)) 67))]⟩) (BaseW.H (bw v 0 eb ec) hs) (Hd.StepC pg 21 0 (fun i:{i:Nat // i≤C.length∧True}=>⟨[(4,(.ptr 1 0)),(5,(.ptr 2 0)),(qS7_11 C z),(qS7_9 C),(12,(.v (.int .i64 i.1)))],[],3,[qS7_6,(2,(.cells (rdT [.v (.int .i64 n),.v (.int .i64 d),.v (.int .i64 q),.xl y P.length 3 (cT P)] (stC (cI C) i.1)) 67))]⟩) (fun i:{i:Nat // i≤C.length∧True}=>C.length - i.1) nrK9 (bw v 0 eb ec) (OutM pg Try.f41 21 ((.agg (rdT [.v (.int .i64 n),.v (.int .i64 d),.v (.int .i64 q),.xl y P.length 3 (cT P)] (stC (cI C) C.length)))) [] (bw v 0 eb ec)) (⟨i,hi1,hi2⟩:{i:Nat // i≤C.length∧True})):=by
 have hcl_C:=cI_len C
 rcases bE (ltI i C.length) with hqnr18_1 | hqnr18_1
 ·skip
  have ghqnr18_1:=lT hqnr18_1
  have hci:=hch.1 i (by omega)
  exact gL isN_e (gT cm (kN) 200 (T':=(qS7_1 C P d i n q y z)) (e:=.normal) (ps:=[ltI i C.length=true,i < C.length,loadL pg (cI C) (i * 1) 3=some (.v (.int .i64 (intAt (cI C) (i * 1)))),0≤intAt (cI C) (i * 1),(intAt (cI C) (i * 1)).toNat < 24,0 + 4 + (intAt (cI C) (i * 1)).toNat * 1 + ([(.v (.bool .true))]:List AV).length≤((rdT [(.v (.int .i64 (n))),(.v (.int .i64 (d))),(.v (.int .i64 (q))),(.xl (y) (P.length) 3 (cT P))] (stC (cI C) i)):List AV).length,inR .i64 (((i:Nat):Int) + 1)]) [.go,.b true,.sym,.sym,.go,.go,.go,.nat,.sym,.go,.go] (by kernel_rfl) (by kernel_rfl) ⟨hqnr18_1,(by omega),(by rw [Nat.mul_one]; exact cI_load (by omega) 3 (u3) rfl),(by omega),(by omega),(by show _ + 1≤_; rw [rdT_len rfl]; omega),(by show -9223372036854775808≤_∧_≤9223372036854775807; constructor <;> omega),trivial⟩ rfl) (eO (⟨i + 1,by omega,trivial⟩) (by show C.length - (i + 1) < C.length - i; omega) (show ((qS7_1 C P d i n q y z):Ev.Lit)=⟨[(4,(.ptr 1 0)),(5,(.ptr 2 0)),(qS7_11 C z),(qS7_9 C),(qS7_10 i)],[],3,[qS7_6,(2,(.cells (rdT [.v (.int .i64 n),.v (.int .i64 d),.v (.int .i64 q),.xl y P.length 3 (cT P)] (stC (cI C) (i + 1))) 67))]⟩ from by have hz_:=congrArg (fun (xq0:Ev.AB)=>(⟨[(4,(.ptr 1 0)),(5,(.ptr 2 0)),(qS7_11 C z),(qS7_9 C),(qS7_10 i)],[],3,[qS7_6,(2,xq0)]⟩:Ev.Lit)) (congrArg (fun z=>Ev.AB.cells z 67) (show ((splice (rdT [(.v (.int .i64 (n))),(.v (.int .i64 (d))),(.v (.int .i64 (q))),(.xl (y) (P.length) 3 (cT P))] (stC (cI C) i)) (0 + 4 + (intAt (cI C) (i * 1)).toNat * 1) [(.v (.bool .true))]):List Ev.AV)=(rdT [.v (.int .i64 n),.v (.int .i64 d),.v (.int .i64 q),.xl y P.length 3 (cT P)] (stC (cI C) (i + 1))) from by exact rdT_set (l:=[.v (.int .i64 n),.v (.int .i64 d),.v (.int .i64 q),.xl y P.length 3 (cT P)]) (st:=stC (cI C) i) (j:=(intAt (cI C) (i * 1)).toNat) rfl (by omega) (by omega) true)); exact hz_))
 ·skip
  have ghqnr18_1:=lF hqnr18_1
  obtain rfl:i=C.length:=by omega
  exact gL isX_e (gT cm (kN) 200 (T':=(qS7_5 C P d n q y)) (e:=.exit 0) (ps:=[ltI C.length C.length=false]) [.go,.b false] (by kernel_rfl) (by kernel_rfl) ⟨hqnr18_1,trivial⟩ rfl) (Hd.en_sx (nr_19 n d q y P z C hm hC hch hi2  hqnr18_1 v eb ec hs))
theorem nr_15 (n d q:Int) (y:Value) (P:PL) (z:Value) (C:List Int) (hm:P.length≤24) (hC:C.length≤1000) (hch:chP (cI C) C.length P.length) (v:BaseW) (eb:EB) (ec:EC) (hs:LN):Goes pg 21 nrK12 ((qS7_2 C P d n q y z)) (BaseW.H (bw v 0 eb ec) hs) (Hd.AfterN pg 21 nrK9 (bw v 0 eb ec) (OutM pg Try.f41 21 ((.agg (rdT [.v (.int .i64 n),.v (.int .i64 d),.v (.int .i64 q),.xl y P.length 3 (cT P)] (stC (cI C) C.length)))) [] (bw v 0 eb ec))):=by
 have hcl_C:=cI_len C
 exact Hd.goes_loopA (id:=0) (by kernel_rfl) (by kernel_rfl) (fun i:{i:Nat // i≤C.length∧True}=>⟨[(4,(.ptr 1 0)),(5,(.ptr 2 0)),(qS7_11 C z),(qS7_9 C),(12,(.v (.int .i64 i.1)))],[],3,[qS7_6,(2,(.cells (rdT [.v (.int .i64 n),.v (.int .i64 d),.v (.int .i64 q),.xl y P.length 3 (cT P)] (stC (cI C) i.1)) 67))]⟩) (fun i:{i:Nat // i≤C.length∧True}=>C.length - i.1) (fun ix_ hs=>nr_17 n d q y P z C hm hC hch ix_.1 ix_.2.1 ix_.2.2 v eb ec hs) ⟨0,Nat.zero_le _,trivial⟩ hs
theorem nr_14 (n d q:Int) (y:Value) (P:PL) (z:Value) (C:List Int) (hm:P.length≤24) (hC:C.length≤1000) (hch:chP (cI C) C.length P.length) (v:BaseW) (eb:EB) (ec:EC) (hs:LN):Goes pg 21 nrK12 ((qS7_2 C P d n q y z)) (BaseW.H (bw v 0 eb ec) hs) (Hd.AfterN pg 21 nrK9 (bw v 0 eb ec) (OutM pg Try.f41 21 ((.agg (rdT [.v (.int .i64 n),.v (.int .i64 d),.v (.int .i64 q),.xl y P.length 3 (cT P)] (stC (cI C) C.length)))) [] (bw v 0 eb ec))):=by
 exact nr_15 n d q y P z C hm hC hch v eb ec hs
theorem nr_11 (n d q:Int) (y:Value) (P:PL) (z:Value) (C:List Int) (hm:P.length≤24) (hC:C.length≤1000) (hch:chP (cI C) C.length P.length) (v:BaseW) (eb:EB) (ec:EC) (hs:LN):Goes pg 21 nrK10 ((qS7_3 C P d n q y z)) (BaseW.H (bw v 0 eb ec) hs) (Hd.AfterN pg 21 nrK9 (bw v 0 eb ec) (OutM pg Try.f41 21 ((.agg (rdT [.v (.int .i64 n),.v (.int .i64 d),.v (.int .i64 q),.xl y P.length 3 (cT P)] (stC (cI C) C.length)))) [] (bw v 0 eb ec))):=by
 have hcl_C:=cI_len C
 refine gS (by kernel_rfl) ?_
 exact gL isN_e (gT cm (kN) 200 (T':=(qS7_2 C P d n q y z)) (e:=.normal) (ps:=[]) [.go,.go,.go] (by kernel_rfl) (by kernel_rfl) trivial rfl) (Hd.en_n (nr_14 n d q y P z C hm hC hch v eb ec hs))
theorem nr_8 (n d q:Int) (y:Value) (P:PL) (z:Value) (C:List Int) (hm:P.length≤24) (hC:C.length≤1000) (hch:chP (cI C) C.length P.length) (v:BaseW) (eb:EB) (ec:EC) (hs:LN):Goes pg 21 nrK6 ((qS7_3 C P d n q y z)) (BaseW.H (bw v 0 eb ec) hs) (OutM pg Try.f41 21 ((.agg (rdT [.v (.int .i64 n),.v (.int .i64 d),.v (.int .i64 q),.xl y P.length 3 (cT P)] (stC (cI C) C.length)))) [] (bw v 0 eb ec)):=by
 exact gS (by kernel_rfl) (nr_11 n d q y P z C hm hC hch v eb ec hs)
theorem nr_5 (n d q:Int) (y:Value) (P:PL) (z:Value) (C:List Int) (hm:P.length≤24) (hC:C.length≤1000) (hch:chP (cI C) C.length P.length) (v:BaseW) (eb:EB) (ec:EC) (hs:LN):Goes pg 21 nrK3 ((qS7_4 C P d n q y z)) (BaseW.H (bw v 0 eb ec) hs) (OutM pg Try.f41 21 ((.agg (rdT [.v (.int .i64 n),.v (.int .i64 d),.v (.int .i64 q),.xl y P.length 3 (cT P)] (stC (cI C) C.length)))) [] (bw v 0 eb ec)):=by
 have hcl_C:=cI_len C
 refine gS (by kernel_rfl) ?_
 exact gL isN_e (gT cm (kN) 200 (T':=(qS7_3 C P d n q y z)) (e:=.normal) (ps:=[]) [.go,.go,.go,.go] (by kernel_rfl) (by kernel_rfl) trivial rfl) (Hd.en_n (nr_8 n d q y P z C hm hC hch v eb ec hs))
theorem nr_2 (n d q:Int) (y:Value) (P:PL) (z:Value) (C:List Int) (hm:P.length≤24) (hC:C.length≤1000) (hch:chP (cI C) C.length P.length) (v:BaseW) (eb:EB) (ec:EC) (hs:LN):Goes pg 21 nrK1 (⟨[(0,(.agg [.v (.int .i64 n),.v (.int .i64 d),.v (.int .i64 q),.xl y P.length 3 (cT P)])),(1,(.xl z C.length 1 (cI C)))],[],0,[]⟩) (BaseW.H (bw v 0 eb ec) hs) (OutM pg Try.f41 21 ((.agg (rdT [.v (.int .i64 n),.v (.int .i64 d),.v (.int .i64 q),.xl y P.length 3 (cT P)] (stC (cI C) C.length)))) [] (bw v 0 eb ec)):=by
 have hcl_C:=cI_len C
 refine gS (by kernel_rfl) ?_
 exact gL isN_e (gT cm (kN) 200 (T':=(qS7_4 C P d n q y z)) (e:=.normal) (ps:=[]) [.go,.go] (by kernel_rfl) (by kernel_rfl) trivial rfl) (Hd.en_n (nr_5 n d q y P z C hm hC hch v eb ec hs))
theorem newroad_g (n d q:Int) (y:Value) (P:PL) (z:Value) (C:List Int) (hm:P.length≤24) (hC:C.length≤1000) (hch:chP (cI C) C.length P.length):GivesM pg 41 [(.agg [.v (.int .i64 n),.v (.int .i64 d),.v (.int .i64 q),.xl y P.length 3 (cT P)]),(.xl z C.length 1 (cI C))] [] ((.agg (rdT [.v (.int .i64 n),.v (.int .i64 d),.v (.int .i64 q),.xl y P.length 3 (cT P)] (stC (cI C) C.length)))) [] :=
 givesM_parts 21 (by kernel_rfl) Try.func41 (by kernel_rfl) (by kernel_rfl) (by kernel_rfl) (fun v eb ec=>goes_less (by kernel_rfl) (by kernel_rfl) (by kernel_rfl) (by kernel_rfl) (nr_2 n d q y P z C hm hC hch v eb ec []))
end
end Go.Proofs.Ytnphldmnakbknaa
