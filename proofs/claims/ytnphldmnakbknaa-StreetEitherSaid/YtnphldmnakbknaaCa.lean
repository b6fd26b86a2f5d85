import Derived.Test.YtnphldmnakbknaaC3
set_option maxHeartbeats 4000000
set_option linter.all false
/- What posts cost, without posts. -/
namespace Go.Proofs.Ytnphldmnakbknaa
open Go Ev
noncomputable section
def coaK1:Code:=bodyC Try.f45
def coaK3:Code:=tlC coaK1
def coaK6:Code:=tlC coaK3
def coaK9:Code:=tlC coaK6
def coaK10:Code:=(hdC coaK6)
def coaK12:Code:=tlC coaK10
def coaK16:Code:=loopC coaK12
theorem coa_19 (n:Nat) (d q:Int) (y:Value) (P:PL) (st:Nat→Bool) (hE:roE n d q (cT P) P.length=0) (h0:(flt (stM n d q y P st) P.length).length=0) (i0:Nat) (h0a:i0≤0) (h0b:True) (v:BaseW) (eb:EB) (ec:EC) (hs:LN):Goes pg 25 coaK9 (⟨[(3,(.v (Value.slice none 0 0)))],[],1,[]⟩) (BaseW.H (bw v 0 eb ec) hs) (OutM pg Try.f45 25 ((.v (.int .i64 0))) [] (bw v 0 eb ec)):=by
 obtain ⟨hm,⟨ha1,ha2,ha3⟩,hp⟩:=roE_zero hE
 have hfl:=flt_le (stM n d q y P st) P.length
 have hcT:=cT_len P
 exact gL isR_e (gK cm (known_coa) 200 (T':=⟨[(2,(.v (.int .i64 (.ofNat 0))))],[],0,[]⟩) (e:=.ret) (m:=1) (ps:=[IsC (0 + 1) 0 [],((0:Nat)≤1000),∀ (i:Nat),i < 0→0≤intAt [] (i * 1)∧intAt [] (i * 1)≤1000000]) [.go,.go] (by kernel_rfl) (by kernel_rfl) ⟨⟨rfl,[],rfl,rfl⟩,(by decide),(fun i hi=>absurd hi (Nat.not_lt_zero i)),trivial⟩ rfl (by show 0≤1; decide) ⟨⟨nb_v _,trivial⟩,trivial,rfl⟩ (by show 0≤0; decide)) (en_eqM (r:=(.v (.int .i64 (.ofNat 0)))) (ys:=[]) (by rfl) (by rfl) (en_retM (by kernel_rfl) (by kernel_rfl) rfl (.inr rfl)))
theorem coa_17 (n:Nat) (d q:Int) (y:Value) (P:PL) (st:Nat→Bool) (hE:roE n d q (cT P) P.length=0) (h0:(flt (stM n d q y P st) P.length).length=0) (i:Nat) (hi1:i≤0) (hi2:True) (v:BaseW) (eb:EB) (ec:EC) (hs:LN):Goes pg 25 coaK16 (⟨[(1,(.ptr 0 0)),(3,(.v (Value.slice none 0 0))),(7,(.v (Value.slice none 0 0))),(8,(.v (.int .i64 (.ofNat 0)))),(9,(.v (.int .i64 i)))],[],1,[(0,(.cells (rdT [(.v (.int .i64 n)),(.v (.int .i64 (d))),(.v (.int .i64 (q))),(.xl (y) (P.length) 3 (cT P))] (st)) 67))]⟩) (BaseW.H (bw v 0 eb ec) hs) (Hd.StepC pg 25 0 (fun i:{i:Nat // i≤0∧True}=>⟨[(1,(.ptr 0 0)),(3,(.v (Value.slice none 0 0))),(7,(.v (Value.slice none 0 0))),(8,(.v (.int .i64 (.ofNat 0)))),(9,(.v (.int .i64 i.1)))],[],1,[(0,(.cells (rdT [(.v (.int .i64 n)),(.v (.int .i64 (d))),(.v (.int .i64 (q))),(.xl (y) (P.length) 3 (cT P))] (st)) 67))]⟩) (fun i:{i:Nat // i≤0∧True}=>0 - i.1) coaK9 (bw v 0 eb ec) (OutM pg Try.f45 25 ((.v (.int .i64 0))) [] (bw v 0 eb ec)) (⟨i,hi1,hi2⟩:{i:Nat // i≤0∧True})):=by
 obtain ⟨hm,⟨ha1,ha2,ha3⟩,hp⟩:=roE_zero hE
 have hfl:=flt_le (stM n d q y P st) P.length
 have hcT:=cT_len P
 exact gL isX_e (gT cm (known_coa) 200 (T':=⟨[(3,(.v (Value.slice none 0 0)))],[],1,[]⟩) (e:=.exit 0) (ps:=[ltI i ((0:Int))=false]) [.go,.b false] (by kernel_rfl) (by kernel_rfl) ⟨(by rw [ltI_iff]; exact decide_eq_false (by omega)),trivial⟩ rfl) (Hd.en_sx (coa_19 n d q y P st hE h0 i hi1 hi2   v eb ec hs))
theorem coa_15 (n:Nat) (d q:Int) (y:Value) (P:PL) (st:Nat→Bool) (hE:roE n d q (cT P) P.length=0) (h0:(flt (stM n d q y P st) P.length).length=0) (v:BaseW) (eb:EB) (ec:EC) (hs:LN):Goes pg 25 coaK12 (⟨[(1,(.ptr 0 0)),(3,(.v (Value.slice none 0 0))),(7,(.v (Value.slice none 0 0))),(8,(.v (.int .i64 (.ofNat 0)))),(9,(.v (.int .i64 (.ofNat 0))))],[],1,[(0,(.cells (rdT [(.v (.int .i64 n)),(.v (.int .i64 (d))),(.v (.int .i64 (q))),(.xl (y) (P.length) 3 (cT P))] (st)) 67))]⟩) (BaseW.H (bw v 0 eb ec) hs) (Hd.AfterN pg 25 coaK9 (bw v 0 eb ec) (OutM pg Try.f45 25 ((.v (.int .i64 0))) [] (bw v 0 eb ec))):=by
 obtain ⟨hm,⟨ha1,ha2,ha3⟩,hp⟩:=roE_zero hE
 have hfl:=flt_le (stM n d q y P st) P.length
 have hcT:=cT_len P
 exact Hd.goes_loopA (id:=0) (by kernel_rfl) (by kernel_rfl) (fun i:{i:Nat // i≤0∧True}=>⟨[(1,(.ptr 0 0)),(3,(.v (Value.slice none 0 0))),(7,(.v (Value.slice none 0 0))),(8,(.v (.int .i64 (.ofNat 0)))),(9,(.v (.int .i64 i.1)))],[],1,[(0,(.cells (rdT [(.v (.int .i64 n)),(.v (.int .i64 (d))),(.v (.int .i64 (q))),(.xl (y) (P.length) 3 (cT P))] (st)) 67))]⟩) (fun i:{i:Nat // i≤0∧True}=>0 - i.1) (fun ix_ hs=>coa_17 n d q y P st hE h0 ix_.1 ix_.2.1 ix_.2.2 v eb ec hs) ⟨0,Nat.zero_le _,trivial⟩ hs
theorem coa_14 (n:Nat) (d q:Int) (y:Value) (P:PL) (st:Nat→Bool) (hE:roE n d q (cT P) P.length=0) (h0:(flt (stM n d q y P st) P.length).length=0) (v:BaseW) (eb:EB) (ec:EC) (hs:LN):Goes pg 25 coaK12 (⟨[(1,(.ptr 0 0)),(3,(.v (Value.slice none 0 0))),(7,(.v (Value.slice none 0 0))),(8,(.v (.int .i64 (.ofNat 0)))),(9,(.v (.int .i64 (.ofNat 0))))],[],1,[(0,(.cells (rdT [(.v (.int .i64 n)),(.v (.int .i64 (d))),(.v (.int .i64 (q))),(.xl (y) (P.length) 3 (cT P))] (st)) 67))]⟩) (BaseW.H (bw v 0 eb ec) hs) (Hd.AfterN pg 25 coaK9 (bw v 0 eb ec) (OutM pg Try.f45 25 ((.v (.int .i64 0))) [] (bw v 0 eb ec))):=by
 exact coa_15 n d q y P st hE h0 v eb ec hs
theorem coa_11 (n:Nat) (d q:Int) (y:Value) (P:PL) (st:Nat→Bool) (hE:roE n d q (cT P) P.length=0) (h0:(flt (stM n d q y P st) P.length).length=0) (v:BaseW) (eb:EB) (ec:EC) (hs:LN):Goes pg 25 coaK10 (⟨[(1,(.ptr 0 0)),(3,(.v (Value.slice none 0 0)))],[],1,[(0,(.cells (rdT [(.v (.int .i64 n)),(.v (.int .i64 (d))),(.v (.int .i64 (q))),(.xl (y) (P.length) 3 (cT P))] (st)) 67))]⟩) (BaseW.H (bw v 0 eb ec) hs) (Hd.AfterN pg 25 coaK9 (bw v 0 eb ec) (OutM pg Try.f45 25 ((.v (.int .i64 0))) [] (bw v 0 eb ec))):=by
 obtain ⟨hm,⟨ha1,ha2,ha3⟩,hp⟩:=roE_zero hE
 have hfl:=flt_le (stM n d q y P st) P.length
 have hcT:=cT_len P
 refine gS (by kernel_rfl) ?_
 exact gL isN_e (gT cm (known_coa) 200 (T':=⟨[(1,(.ptr 0 0)),(3,(.v (Value.slice none 0 0))),(7,(.v (Value.slice none 0 0))),(8,(.v (.int .i64 (.ofNat 0)))),(9,(.v (.int .i64 (.ofNat 0))))],[],1,[(0,(.cells (rdT [(.v (.int .i64 n)),(.v (.int .i64 (d))),(.v (.int .i64 (q))),(.xl (y) (P.length) 3 (cT P))] (st)) 67))]⟩) (e:=.normal) (ps:=[FreeL (cT P),IsRd (rdT [.v (.int .i64 n),.v (.int .i64 d),.v (.int .i64 q),AV.xl y P.length 3 (cT P)] (st)),P.length≤24,(flt (stM n d q y P st) P.length).length=0]) [.go,.go,.go] (by kernel_rfl) (by kernel_rfl) ⟨(fP (cT_plain P)),⟨_,_,_,_,P,st,rfl⟩,(by omega),h0,trivial⟩ rfl) (Hd.en_n (coa_14 n d q y P st hE h0 v eb ec hs))
theorem coa_8 (n:Nat) (d q:Int) (y:Value) (P:PL) (st:Nat→Bool) (hE:roE n d q (cT P) P.length=0) (h0:(flt (stM n d q y P st) P.length).length=0) (v:BaseW) (eb:EB) (ec:EC) (hs:LN):Goes pg 25 coaK6 (⟨[(1,(.ptr 0 0)),(3,(.v (Value.slice none 0 0)))],[],1,[(0,(.cells (rdT [(.v (.int .i64 n)),(.v (.int .i64 (d))),(.v (.int .i64 (q))),(.xl (y) (P.length) 3 (cT P))] (st)) 67))]⟩) (BaseW.H (bw v 0 eb ec) hs) (OutM pg Try.f45 25 ((.v (.int .i64 0))) [] (bw v 0 eb ec)):=by
 exact gS (by kernel_rfl) (coa_11 n d q y P st hE h0 v eb ec hs)
theorem coa_5 (n:Nat) (d q:Int) (y:Value) (P:PL) (st:Nat→Bool) (hE:roE n d q (cT P) P.length=0) (h0:(flt (stM n d q y P st) P.length).length=0) (v:BaseW) (eb:EB) (ec:EC) (hs:LN):Goes pg 25 coaK3 (⟨[(1,(.ptr 0 0))],[],1,[(0,(.cells (rdT [(.v (.int .i64 n)),(.v (.int .i64 (d))),(.v (.int .i64 (q))),(.xl (y) (P.length) 3 (cT P))] (st)) 67))]⟩) (BaseW.H (bw v 0 eb ec) hs) (OutM pg Try.f45 25 ((.v (.int .i64 0))) [] (bw v 0 eb ec)):=by
 obtain ⟨hm,⟨ha1,ha2,ha3⟩,hp⟩:=roE_zero hE
 have hfl:=flt_le (stM n d q y P st) P.length
 have hcT:=cT_len P
 refine gS (by kernel_rfl) ?_
 exact gL isN_e (gT cm (known_coa) 200 (T':=⟨[(1,(.ptr 0 0)),(3,(.v (Value.slice none 0 0)))],[],1,[(0,(.cells (rdT [(.v (.int .i64 n)),(.v (.int .i64 (d))),(.v (.int .i64 (q))),(.xl (y) (P.length) 3 (cT P))] (st)) 67))]⟩) (e:=.normal) (ps:=[]) [.go] (by kernel_rfl) (by kernel_rfl) trivial rfl) (Hd.en_n (coa_8 n d q y P st hE h0 v eb ec hs))
theorem coa_2 (n:Nat) (d q:Int) (y:Value) (P:PL) (st:Nat→Bool) (hE:roE n d q (cT P) P.length=0) (h0:(flt (stM n d q y P st) P.length).length=0) (v:BaseW) (eb:EB) (ec:EC) (hs:LN):Goes pg 25 coaK1 (⟨[(0,(.agg (rdT [.v (.int .i64 n),.v (.int .i64 d),.v (.int .i64 q),.xl y P.length 3 (cT P)] (st))))],[],0,[]⟩) (BaseW.H (bw v 0 eb ec) hs) (OutM pg Try.f45 25 ((.v (.int .i64 0))) [] (bw v 0 eb ec)):=by
 obtain ⟨hm,⟨ha1,ha2,ha3⟩,hp⟩:=roE_zero hE
 have hfl:=flt_le (stM n d q y P st) P.length
 have hcT:=cT_len P
 refine gS (by kernel_rfl) ?_
 exact gL isN_e (gT cm (known_coa) 200 (T':=⟨[(1,(.ptr 0 0))],[],1,[(0,(.cells (rdT [(.v (.int .i64 n)),(.v (.int .i64 (d))),(.v (.int .i64 (q))),(.xl (y) (P.length) 3 (cT P))] (st)) 67))]⟩) (e:=.normal) (ps:=[]) [.go,.go] (by kernel_rfl) (by kernel_rfl) trivial rfl) (Hd.en_n (coa_5 n d q y P st hE h0 v eb ec hs))
theorem cost_a (n:Nat) (d q:Int) (y:Value) (P:PL) (st:Nat→Bool) (hE:roE n d q (cT P) P.length=0) (h0:(flt (stM n d q y P st) P.length).length=0):GivesM pg 45 [(.agg (rdT [.v (.int .i64 n),.v (.int .i64 d),.v (.int .i64 q),.xl y P.length 3 (cT P)] (st)))] [] ((.v (.int .i64 0))) [] :=
 givesM_parts 25 (by kernel_rfl) Try.func45 (by kernel_rfl) (by kernel_rfl) (by kernel_rfl) (fun v eb ec=>goes_less (by kernel_rfl) (by kernel_rfl) (by kernel_rfl) (by kernel_rfl) (coa_2 n d q y P st hE h0 v eb ec []))
end
end Go.Proofs.Ytnphldmnakbknaa
