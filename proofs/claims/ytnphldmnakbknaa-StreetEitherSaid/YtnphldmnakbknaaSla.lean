import Derived.Test.YtnphldmnakbknaaSq
set_option maxHeartbeats 4000000
set_option linter.all false
/- By how many posts places are lit. -/
namespace Go.Proofs.Ytnphldmnakbknaa
open Go Ev
noncomputable section
section
variable (P : PL) (d : Int) (i n : Nat) (q : Int) (st : Nat → Bool) (y : Value)
abbrev qSla_11:Nat×Ev.AV:=(12,(.v (Value.slice none 0 0)))
abbrev qSla_10:Nat×Ev.AV:=(13,(.v (.int .i64 (.ofNat 0))))
abbrev qSla_5:Nat×Ev.AB:=(0,(.cells (rdT [(.v (.int .i64 n)),(.v (.int .i64 (d))),(.v (.int .i64 (q))),(.xl (y) (P.length) 3 (cT P))] (st)) 67))
abbrev qSla_7:Nat×Ev.AB:=(1,(.cells (repL n (List.map AV.v (Value.int IntKind.i64 0).cells.toList)) 3))
abbrev qSla_9:Nat×Ev.AB:=(2,(.cells [(.sl 1 0 (n) (n))] 25))
abbrev qSla_1:Ev.Lit:=⟨[(1,(.ptr 0 0)),(3,(.ptr 2 0)),qSla_11,qSla_10,(14,(.v (.int .i64 i))),(15,(.v (.bool .false)))],[],3,[(qSla_5 P d n q st y),(qSla_7 n),(qSla_9 n)]⟩
abbrev qSla_2:Ev.Lit:=⟨[(1,(.ptr 0 0)),(3,(.ptr 2 0)),qSla_11,qSla_10,(14,(.v (.int .i64 (.ofNat 0))))],[],3,[(qSla_5 P d n q st y),(qSla_7 n),(qSla_9 n)]⟩
abbrev qSla_3:Ev.Lit:=⟨[(1,(.ptr 0 0)),(3,(.ptr 2 0))],[],3,[(qSla_5 P d n q st y),(qSla_7 n),(qSla_9 n)]⟩
abbrev qSla_4:Ev.Lit:=⟨[(1,(.ptr 0 0))],[],1,[(qSla_5 P d n q st y)]⟩
abbrev qSla_8:=(flt (stM n d q y P st) P.length)
abbrev qSla_6:Ev.AB:=(.cells (cI (tabL (litF (cT P) q (cI (qSla_8 P d n q st y)) 0) n)) 3)
end
def ltaK1:Code:=bodyC Try.f42
def ltaK3:Code:=tlC ltaK1
def ltaK6:Code:=tlC ltaK3
def ltaK9:Code:=tlC ltaK6
def ltaK10:Code:=(hdC ltaK6)
def ltaK12:Code:=tlC ltaK10
def ltaK16:Code:=loopC ltaK12
def ltaK19:Code:=tlC ltaK16
theorem lta_24 (n:Nat) (d q:Int) (y:Value) (P:PL) (st:Nat→Bool) (hE:roE n d q (cT P) P.length=0) (h0:(flt (stM n d q y P st) P.length).length=0) (i0:Nat) (h0a:i0≤0) (h0b:True) (v:BaseW) (eb:EB) (ec:EC) (hs:LN):Goes pg 33 ltaK9 (⟨[(3,(.ptr 2 0))],[],3,[(1,(.cells (repL n (List.map AV.v (Value.int IntKind.i64 0).cells.toList)) 3)),(2,(.cells [(.sl 1 0 (n) (n))] 25))]⟩) (BaseW.H (bw v 0 eb ec) hs) (OutM pg Try.f42 33 ((.sl 0 0 n n)) [(.cells (cI (tabL (litF (cT P) q (cI (flt (stM n d q y P st) P.length)) 0) n)) 3)] (bw v 0 eb ec)):=by
 obtain ⟨hm,⟨ha1,ha2,ha3⟩,hp⟩:=roE_zero hE
 exact gL isR_e (gC cm (known_lta) 200 (T':=⟨[(2,(.sl 0 0 (n) (n)))],[],1,[(0,(.cells (repL n (List.map AV.v (Value.int IntKind.i64 0).cells.toList)) 3))]⟩) (e:=.ret) (m:=3) (ps:=[]) [.go,.go] [1] [(.sl 1 0 (n) (n))] [(.cells (repL n (List.map AV.v (Value.int IntKind.i64 0).cells.toList)) 3)] (by kernel_rfl) (by kernel_rfl) trivial rfl rfl (by decide) rfl ⟨nr_sl rfl,trivial⟩ ⟨⟨by show 0 < 1; decide,nrb_cells (nrl_free (freeL_rep0 _))⟩,trivial⟩) (en_eqM (r:=(.sl 0 0 (n) (n))) (ys:=[(.cells (repL n (List.map AV.v (Value.int IntKind.i64 0).cells.toList)) 3)]) (by rfl) (by rw [← lit_rep]; rfl) (en_retM (by kernel_rfl) (by kernel_rfl) rfl (.inr rfl)))
theorem lta_21 (n:Nat) (d q:Int) (y:Value) (P:PL) (st:Nat→Bool) (hE:roE n d q (cT P) P.length=0) (h0:(qSla_8 P d n q st y).length=0) (i:Nat) (hi1:i≤0) (hi2:True) (v:BaseW) (eb:EB) (ec:EC) (hs:LN):Goes pg 33 ltaK19 ((qSla_1 P d i n q st y)) (BaseW.H (bw v 0 eb ec) hs) (Hd.StepC pg 33 0 (fun i:{i:Nat // i≤0∧True}=>⟨[(1,(.ptr 0 0)),(3,(.ptr 2 0)),qSla_11,qSla_10,(14,(.v (.int .i64 i.1)))],[],3,[(qSla_5 P d n q st y),(qSla_7 n),(qSla_9 n)]⟩) (fun i:{i:Nat // i≤0∧True}=>0 - i.1) ltaK9 (bw v 0 eb ec) (OutM pg Try.f42 33 ((.sl 0 0 n n)) [(qSla_6 P d n q st y)] (bw v 0 eb ec)) (⟨i,hi1,hi2⟩:{i:Nat // i≤0∧True})):=by
 obtain ⟨hm,⟨ha1,ha2,ha3⟩,hp⟩:=roE_zero hE
 refine gS (by kernel_rfl) ?_
 exact gL isX_e (gT cm (known_lta) 200 (T':=⟨[(3,(.ptr 2 0))],[],3,[(qSla_7 n),(qSla_9 n)]⟩) (e:=.exit 0) (ps:=[false=false]) [.b false] (by kernel_rfl) (by kernel_rfl) ⟨rfl,trivial⟩ rfl) (Hd.en_o (by intro h; cases h) (Hd.en_sx (lta_24 n d q y P st hE h0 i hi1 hi2   v eb ec hs)))
theorem lta_18 (n:Nat) (d q:Int) (y:Value) (P:PL) (st:Nat→Bool) (hE:roE n d q (cT P) P.length=0) (h0:(qSla_8 P d n q st y).length=0) (i:Nat) (hi1:i≤0) (hi2:True) (v:BaseW) (eb:EB) (ec:EC) (hs:LN):Goes pg 33 ltaK16 (⟨[(1,(.ptr 0 0)),(3,(.ptr 2 0)),qSla_11,qSla_10,(14,(.v (.int .i64 i)))],[],3,[(qSla_5 P d n q st y),(qSla_7 n),(qSla_9 n)]⟩) (BaseW.H (bw v 0 eb ec) hs) (Hd.StepC pg 33 0 (fun i:{i:Nat // i≤0∧True}=>⟨[(1,(.ptr 0 0)),(3,(.ptr 2 0)),qSla_11,qSla_10,(14,(.v (.int .i64 i.1)))],[],3,[(qSla_5 P d n q st y),(qSla_7 n),(qSla_9 n)]⟩) (fun i:{i:Nat // i≤0∧True}=>0 - i.1) ltaK9 (bw v 0 eb ec) (OutM pg Try.f42 33 ((.sl 0 0 n n)) [(qSla_6 P d n q st y)] (bw v 0 eb ec)) (⟨i,hi1,hi2⟩:{i:Nat // i≤0∧True})):=by
 obtain ⟨hm,⟨ha1,ha2,ha3⟩,hp⟩:=roE_zero hE
 refine gS (by kernel_rfl) ?_
 exact gL isN_e (gT cm (known_lta) 200 (T':=(qSla_1 P d i n q st y)) (e:=.normal) (ps:=[]) [.go] (by kernel_rfl) (by kernel_rfl) trivial rfl) (Hd.en_n (lta_21 n d q y P st hE h0 i hi1 hi2 v eb ec hs))
theorem lta_15 (n:Nat) (d q:Int) (y:Value) (P:PL) (st:Nat→Bool) (hE:roE n d q (cT P) P.length=0) (h0:(qSla_8 P d n q st y).length=0) (v:BaseW) (eb:EB) (ec:EC) (hs:LN):Goes pg 33 ltaK12 ((qSla_2 P d n q st y)) (BaseW.H (bw v 0 eb ec) hs) (Hd.AfterN pg 33 ltaK9 (bw v 0 eb ec) (OutM pg Try.f42 33 ((.sl 0 0 n n)) [(qSla_6 P d n q st y)] (bw v 0 eb ec))):=by
 obtain ⟨hm,⟨ha1,ha2,ha3⟩,hp⟩:=roE_zero hE
 exact Hd.goes_loopA (id:=0) (by kernel_rfl) (by kernel_rfl) (fun i:{i:Nat // i≤0∧True}=>⟨[(1,(.ptr 0 0)),(3,(.ptr 2 0)),qSla_11,qSla_10,(14,(.v (.int .i64 i.1)))],[],3,[(qSla_5 P d n q st y),(qSla_7 n),(qSla_9 n)]⟩) (fun i:{i:Nat // i≤0∧True}=>0 - i.1) (fun ix_ hs=>lta_18 n d q y P st hE h0 ix_.1 ix_.2.1 ix_.2.2 v eb ec hs) ⟨0,Nat.zero_le _,trivial⟩ hs
theorem lta_14 (n:Nat) (d q:Int) (y:Value) (P:PL) (st:Nat→Bool) (hE:roE n d q (cT P) P.length=0) (h0:(qSla_8 P d n q st y).length=0) (v:BaseW) (eb:EB) (ec:EC) (hs:LN):Goes pg 33 ltaK12 ((qSla_2 P d n q st y)) (BaseW.H (bw v 0 eb ec) hs) (Hd.AfterN pg 33 ltaK9 (bw v 0 eb ec) (OutM pg Try.f42 33 ((.sl 0 0 n n)) [(qSla_6 P d n q st y)] (bw v 0 eb ec))):=by
 exact lta_15 n d q y P st hE h0 v eb ec hs
theorem lta_11 (n:Nat) (d q:Int) (y:Value) (P:PL) (st:Nat→Bool) (hE:roE n d q (cT P) P.length=0) (h0:(qSla_8 P d n q st y).length=0) (v:BaseW) (eb:EB) (ec:EC) (hs:LN):Goes pg 33 ltaK10 ((qSla_3 P d n q st y)) (BaseW.H (bw v 0 eb ec) hs) (Hd.AfterN pg 33 ltaK9 (bw v 0 eb ec) (OutM pg Try.f42 33 ((.sl 0 0 n n)) [(qSla_6 P d n q st y)] (bw v 0 eb ec))):=by
 obtain ⟨hm,⟨ha1,ha2,ha3⟩,hp⟩:=roE_zero hE
 refine gS (by kernel_rfl) ?_
 exact gL isN_e (gT cm (known_lta) 200 (T':=(qSla_2 P d n q st y)) (e:=.normal) (ps:=[FreeL (cT P),IsRd (rdT [.v (.int .i64 n),.v (.int .i64 d),.v (.int .i64 q),AV.xl y P.length 3 (cT P)] (st)),P.length≤24,(qSla_8 P d n q st y).length=0]) [.go,.go,.go] (by kernel_rfl) (by kernel_rfl) ⟨(fP (cT_plain P)),⟨_,_,_,_,P,st,rfl⟩,(by omega),h0,trivial⟩ rfl) (Hd.en_n (lta_14 n d q y P st hE h0 v eb ec hs))
theorem lta_8 (n:Nat) (d q:Int) (y:Value) (P:PL) (st:Nat→Bool) (hE:roE n d q (cT P) P.length=0) (h0:(qSla_8 P d n q st y).length=0) (v:BaseW) (eb:EB) (ec:EC) (hs:LN):Goes pg 33 ltaK6 ((qSla_3 P d n q st y)) (BaseW.H (bw v 0 eb ec) hs) (OutM pg Try.f42 33 ((.sl 0 0 n n)) [(qSla_6 P d n q st y)] (bw v 0 eb ec)):=by
 exact gS (by kernel_rfl) (lta_11 n d q y P st hE h0 v eb ec hs)
theorem lta_5 (n:Nat) (d q:Int) (y:Value) (P:PL) (st:Nat→Bool) (hE:roE n d q (cT P) P.length=0) (h0:(qSla_8 P d n q st y).length=0) (v:BaseW) (eb:EB) (ec:EC) (hs:LN):Goes pg 33 ltaK3 ((qSla_4 P d n q st y)) (BaseW.H (bw v 0 eb ec) hs) (OutM pg Try.f42 33 ((.sl 0 0 n n)) [(qSla_6 P d n q st y)] (bw v 0 eb ec)):=by
 obtain ⟨hm,⟨ha1,ha2,ha3⟩,hp⟩:=roE_zero hE
 refine gS (by kernel_rfl) ?_
 exact gL isN_e (gT cm (known_lta) 200 (T':=(qSla_3 P d n q st y)) (e:=.normal) (ps:=[n≤n,n≤1000000]) [.go,.go,.go,.sym,.go,.go] (by kernel_rfl) (by kernel_rfl) ⟨(by omega),(by omega),trivial⟩ rfl) (Hd.en_n (lta_8 n d q y P st hE h0 v eb ec hs))
theorem lta_2 (n:Nat) (d q:Int) (y:Value) (P:PL) (st:Nat→Bool) (hE:roE n d q (cT P) P.length=0) (h0:(qSla_8 P d n q st y).length=0) (v:BaseW) (eb:EB) (ec:EC) (hs:LN):Goes pg 33 ltaK1 (⟨[(0,(.agg (rdT [.v (.int .i64 n),.v (.int .i64 d),.v (.int .i64 q),.xl y P.length 3 (cT P)] (st))))],[],0,[]⟩) (BaseW.H (bw v 0 eb ec) hs) (OutM pg Try.f42 33 ((.sl 0 0 n n)) [(qSla_6 P d n q st y)] (bw v 0 eb ec)):=by
 obtain ⟨hm,⟨ha1,ha2,ha3⟩,hp⟩:=roE_zero hE
 refine gS (by kernel_rfl) ?_
 exact gL isN_e (gT cm (known_lta) 200 (T':=(qSla_4 P d n q st y)) (e:=.normal) (ps:=[]) [.go,.go] (by kernel_rfl) (by kernel_rfl) trivial rfl) (Hd.en_n (lta_5 n d q y P st hE h0 v eb ec hs))
theorem lit_a (n:Nat) (d q:Int) (y:Value) (P:PL) (st:Nat→Bool) (hE:roE n d q (cT P) P.length=0) (h0:(qSla_8 P d n q st y).length=0):GivesM pg 42 [(.agg (rdT [.v (.int .i64 n),.v (.int .i64 d),.v (.int .i64 q),.xl y P.length 3 (cT P)] (st)))] [] ((.sl 0 0 n n)) [(qSla_6 P d n q st y)] :=
 givesM_parts 33 (by kernel_rfl) Try.func42 (by kernel_rfl) (by kernel_rfl) (by kernel_rfl) (fun v eb ec=>goes_less (by kernel_rfl) (by kernel_rfl) (by kernel_rfl) (by kernel_rfl) (lta_2 n d q y P st hE h0 v eb ec []))
end
end Go.Proofs.Ytnphldmnakbknaa
