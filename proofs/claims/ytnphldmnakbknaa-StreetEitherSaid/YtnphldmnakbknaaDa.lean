import Derived.Test.YtnphldmnakbknaaD1
set_option maxHeartbeats 4000000
set_option linter.all false
/- Dark places, without posts. -/
namespace Go.Proofs.Ytnphldmnakbknaa
open Go Ev
noncomputable section
section
variable (P : PL) (d : Int) (i n : Nat) (q : Int) (st : Nat → Bool) (y : Value)
abbrev qDa_13:Nat×Ev.AV:=(4,(.v (.int .i64 n)))
abbrev qDa_17:Nat×Ev.AV:=(5,(.v (Value.slice none 0 0)))
abbrev qDa_14:Nat×Ev.AV:=(6,(.v (.int .i64 i)))
abbrev qDa_18:Nat×Ev.AV:=(7,(.v (Value.slice none 0 0)))
abbrev qDa_11:Nat×Ev.AV:=(15,(.v (.int .i64 n)))
abbrev qDa_12:Nat×Ev.AV:=(16,(.v (.int .i64 i)))
abbrev qDa_16:Nat×Ev.AV:=(20,(.v (Value.slice none 0 0)))
abbrev qDa_15:Nat×Ev.AV:=(21,(.v (.int .i64 (.ofNat 0))))
abbrev qDa_9:Nat×Ev.AB:=(0,(.cells (rdT [(.v (.int .i64 n)),(.v (.int .i64 (d))),(.v (.int .i64 (q))),(.xl (y) (P.length) 3 (cT P))] (st)) 67))
abbrev qDa_1:Ev.Lit:=⟨[(1,(.ptr 0 0)),(qDa_13 n),qDa_17,(qDa_14 i),qDa_18,(qDa_11 n),(qDa_12 i),qDa_16,qDa_15,(22,(.v (.int .i64 (.ofNat 0))))],[],1,[(qDa_9 P d n q st y)]⟩
abbrev qDa_2:Ev.Lit:=⟨[(1,(.ptr 0 0)),(qDa_13 n),qDa_17,(qDa_14 i),qDa_18,(qDa_11 n),(qDa_12 i)],[],1,[(qDa_9 P d n q st y)]⟩
abbrev qDa_3:Ev.Lit:=⟨[(1,(.ptr 0 0)),(qDa_13 n),qDa_17,(qDa_11 n),(qDa_12 i),(17,(.v (.bool (ltI i n))))],[],1,[(qDa_9 P d n q st y)]⟩
abbrev qDa_4:Ev.Lit:=⟨[(1,(.ptr 0 0)),(qDa_13 n),qDa_17,(qDa_14 i),(qDa_11 n),(qDa_12 i)],[],1,[(qDa_9 P d n q st y)]⟩
abbrev qDa_5:Ev.Lit:=⟨[(1,(.ptr 0 0)),(qDa_13 n),qDa_17,(qDa_11 n),(qDa_12 i)],[],1,[(qDa_9 P d n q st y)]⟩
abbrev qDa_6:Ev.Lit:=⟨[(1,(.ptr 0 0)),(qDa_13 n),qDa_17,(qDa_11 n),(16,(.v (.int .i64 (.ofNat 0))))],[],1,[(qDa_9 P d n q st y)]⟩
abbrev qDa_7:Ev.Lit:=⟨[(1,(.ptr 0 0)),(qDa_13 n),qDa_17],[],1,[(qDa_9 P d n q st y)]⟩
abbrev qDa_8:Ev.Lit:=⟨[(1,(.ptr 0 0))],[],1,[(qDa_9 P d n q st y)]⟩
abbrev qDa_10:=(flt (stM n d q y P st) P.length)
end
def dkaK1:Code:=bodyC Try.f52
def dkaK3:Code:=tlC dkaK1
def dkaK7:Code:=scpC dkaK3
def dkaK9:Code:=tlC dkaK7
def dkaK12:Code:=tlC dkaK9
def dkaK15:Code:=tlC dkaK12
def dkaK16:Code:=(hdC dkaK12)
def dkaK18:Code:=tlC dkaK16
def dkaK22:Code:=loopC dkaK18
def dkaK25:Code:=tlC dkaK22
def dkaK28:Code:=tlC dkaK25
def dkaK31:Code:=tlC dkaK28
def dkaK33:Code:=blkB (hdC dkaK28)
def dkaK35:Code:=tlC dkaK33
def dkaK38:Code:=tlC dkaK35
def dkaK41:Code:=tlC dkaK38
def dkaK42:Code:=(hdC dkaK38)
def dkaK44:Code:=tlC dkaK42
def dkaK48:Code:=loopC dkaK44
theorem dka_53 (n:Nat) (d q:Int) (y:Value) (P:PL) (st:Nat→Bool) (hE:roE n d q (cT P) P.length=0) (h0:(qDa_10 P d n q st y).length=0) (i0:Nat) (h0a:i0≤n) (h0b:i0=0) (hqdka29_1:(ltI i0 n)=true) (j2:Nat) (h2a:j2≤0) (h2b:True) (v:BaseW) (eb:EB) (ec:EC) (hs:LN):Goes pg 46 dkaK15 (⟨[(4,(.v (.int .i64 i0))),qDa_17],[],1,[]⟩) (BaseW.H (bw v 0 eb ec) hs) (OutM pg Try.f52 46 ((.tup [.v (.int .i64 0),.v (.slice none 0 0)])) [] (bw v 0 eb ec)):=by
 obtain ⟨hm,⟨ha1,ha2,ha3⟩,hp⟩:=roE_zero hE
 have hfl:=flt_le (stM n d q y P st) P.length
 have ghqdka29_1:=lT hqdka29_1
 exact gL isR_e (gK cm (known_lta) 200 (T':=⟨[(2,(.v (.int .i64 i0))),(3,(.v (Value.slice none 0 0)))],[],0,[]⟩) (e:=.ret) (m:=1) (ps:=[]) [.go,.go,.go,.go] (by kernel_rfl) (by kernel_rfl) trivial rfl (by show 0≤1; decide) ⟨⟨nb_v _,nb_v _,trivial⟩,trivial,rfl⟩ (by show 0≤0; decide)) (en_eqM (r:=(.tup [(.v (.int .i64 i0)),(.v (Value.slice none 0 0))])) (ys:=[]) (by (rw [show i0=0 from h0b]; rfl)) (by rfl) (en_retM (by kernel_rfl) (by kernel_rfl) rfl (.inr rfl)))
theorem dka_51 (n:Nat) (d q:Int) (y:Value) (P:PL) (st:Nat→Bool) (hE:roE n d q (cT P) P.length=0) (h0:(qDa_10 P d n q st y).length=0) (i:Nat) (hi1:i≤n) (hi2:i=0) (hqdka29_1:(ltI i n)=true) (j2:Nat) (h2a:j2≤0) (h2b:True) (v:BaseW) (eb:EB) (ec:EC) (hs:LN):Goes pg 46 dkaK41 (⟨[(qDa_14 i),qDa_18],[],1,[]⟩) (BaseW.H (bw v 0 eb ec) hs) (Hd.AfterB pg 46 1 dkaK31 (bw v 0 eb ec) (Hd.StepC pg 46 0 (fun i:{i:Nat // i≤n∧i=0}=>⟨[(1,(.ptr 0 0)),(qDa_13 n),qDa_17,(qDa_11 n),(16,(.v (.int .i64 i.1)))],[],1,[(qDa_9 P d n q st y)]⟩) (fun i:{i:Nat // i≤n∧i=0}=>n - i.1) dkaK15 (bw v 0 eb ec) (OutM pg Try.f52 46 ((.tup [.v (.int .i64 0),.v (.slice none 0 0)])) [] (bw v 0 eb ec)) (⟨i,hi1,hi2⟩:{i:Nat // i≤n∧i=0}))):=by
 obtain ⟨hm,⟨ha1,ha2,ha3⟩,hp⟩:=roE_zero hE
 have hfl:=flt_le (stM n d q y P st) P.length
 have ghqdka29_1:=lT hqdka29_1
 exact gL isX_e (gT cm (known_lta) 200 (T':=⟨[(4,(.v (.int .i64 i))),qDa_17],[],1,[]⟩) (e:=.exit 0) (ps:=[]) [.go,.go,.go,.go] (by kernel_rfl) (by kernel_rfl) trivial rfl) (Hd.en_bo (by intro h; cases h) (by intro h; cases h) (Hd.en_sx (dka_53 n d q y P st hE h0 i hi1 hi2 hqdka29_1 j2 h2a h2b  v eb ec hs)))
theorem dka_49 (n:Nat) (d q:Int) (y:Value) (P:PL) (st:Nat→Bool) (hE:roE n d q (cT P) P.length=0) (h0:(qDa_10 P d n q st y).length=0) (i:Nat) (hi1:i≤n) (hi2:i=0) (hqdka29_1:(ltI i n)=true) (j:Nat) (hj1:j≤0) (hj2:True) (v:BaseW) (eb:EB) (ec:EC) (hs:LN):Goes pg 46 dkaK48 (⟨[(1,(.ptr 0 0)),(qDa_13 n),qDa_17,(qDa_14 i),qDa_18,(qDa_11 n),(qDa_12 i),qDa_16,qDa_15,(22,(.v (.int .i64 j)))],[],1,[(qDa_9 P d n q st y)]⟩) (BaseW.H (bw v 0 eb ec) hs) (Hd.StepC pg 46 2 (fun j:{j:Nat // j≤0∧True}=>⟨[(1,(.ptr 0 0)),(qDa_13 n),qDa_17,(qDa_14 i),qDa_18,(qDa_11 n),(qDa_12 i),qDa_16,qDa_15,(22,(.v (.int .i64 j.1)))],[],1,[(qDa_9 P d n q st y)]⟩) (fun j:{j:Nat // j≤0∧True}=>0 - j.1) dkaK41 (bw v 0 eb ec) (Hd.AfterB pg 46 1 dkaK31 (bw v 0 eb ec) (Hd.StepC pg 46 0 (fun i:{i:Nat // i≤n∧i=0}=>⟨[(1,(.ptr 0 0)),(qDa_13 n),qDa_17,(qDa_11 n),(16,(.v (.int .i64 i.1)))],[],1,[(qDa_9 P d n q st y)]⟩) (fun i:{i:Nat // i≤n∧i=0}=>n - i.1) dkaK15 (bw v 0 eb ec) (OutM pg Try.f52 46 ((.tup [.v (.int .i64 0),.v (.slice none 0 0)])) [] (bw v 0 eb ec)) (⟨i,hi1,hi2⟩:{i:Nat // i≤n∧i=0}))) (⟨j,hj1,hj2⟩:{j:Nat // j≤0∧True})):=by
 obtain ⟨hm,⟨ha1,ha2,ha3⟩,hp⟩:=roE_zero hE
 have hfl:=flt_le (stM n d q y P st) P.length
 have ghqdka29_1:=lT hqdka29_1
 exact gL isX_e (gT cm (known_lta) 200 (T':=⟨[(qDa_14 i),qDa_18],[],1,[]⟩) (e:=.exit 2) (ps:=[ltI j ((0:Int))=false]) [.go,.b false] (by kernel_rfl) (by kernel_rfl) ⟨(by rw [ltI_iff]; exact decide_eq_false (by omega)),trivial⟩ rfl) (Hd.en_sx (dka_51 n d q y P st hE h0 i hi1 hi2 hqdka29_1 j hj1 hj2   v eb ec hs))
theorem dka_47 (n:Nat) (d q:Int) (y:Value) (P:PL) (st:Nat→Bool) (hE:roE n d q (cT P) P.length=0) (h0:(qDa_10 P d n q st y).length=0) (i:Nat) (hi1:i≤n) (hi2:i=0) (hqdka29_1:(ltI i n)=true) (v:BaseW) (eb:EB) (ec:EC) (hs:LN):Goes pg 46 dkaK44 ((qDa_1 P d i n q st y)) (BaseW.H (bw v 0 eb ec) hs) (Hd.AfterN pg 46 dkaK41 (bw v 0 eb ec) (Hd.AfterB pg 46 1 dkaK31 (bw v 0 eb ec) (Hd.StepC pg 46 0 (fun i:{i:Nat // i≤n∧i=0}=>⟨[(1,(.ptr 0 0)),(qDa_13 n),qDa_17,(qDa_11 n),(16,(.v (.int .i64 i.1)))],[],1,[(qDa_9 P d n q st y)]⟩) (fun i:{i:Nat // i≤n∧i=0}=>n - i.1) dkaK15 (bw v 0 eb ec) (OutM pg Try.f52 46 ((.tup [.v (.int .i64 0),.v (.slice none 0 0)])) [] (bw v 0 eb ec)) (⟨i,hi1,hi2⟩:{i:Nat // i≤n∧i=0})))):=by
 obtain ⟨hm,⟨ha1,ha2,ha3⟩,hp⟩:=roE_zero hE
 have hfl:=flt_le (stM n d q y P st) P.length
 have ghqdka29_1:=lT hqdka29_1
 exact Hd.goes_loopA (id:=2) (by kernel_rfl) (by kernel_rfl) (fun j:{j:Nat // j≤0∧True}=>⟨[(1,(.ptr 0 0)),(qDa_13 n),qDa_17,(qDa_14 i),qDa_18,(qDa_11 n),(qDa_12 i),qDa_16,qDa_15,(22,(.v (.int .i64 j.1)))],[],1,[(qDa_9 P d n q st y)]⟩) (fun j:{j:Nat // j≤0∧True}=>0 - j.1) (fun ix_ hs=>dka_49 n d q y P st hE h0 i hi1 hi2 hqdka29_1 ix_.1 ix_.2.1 ix_.2.2 v eb ec hs) ⟨0,Nat.zero_le _,trivial⟩ hs
theorem dka_46 (n:Nat) (d q:Int) (y:Value) (P:PL) (st:Nat→Bool) (hE:roE n d q (cT P) P.length=0) (h0:(qDa_10 P d n q st y).length=0) (i:Nat) (hi1:i≤n) (hi2:i=0) (hqdka29_1:(ltI i n)=true) (v:BaseW) (eb:EB) (ec:EC) (hs:LN):Goes pg 46 dkaK44 ((qDa_1 P d i n q st y)) (BaseW.H (bw v 0 eb ec) hs) (Hd.AfterN pg 46 dkaK41 (bw v 0 eb ec) (Hd.AfterB pg 46 1 dkaK31 (bw v 0 eb ec) (Hd.StepC pg 46 0 (fun i:{i:Nat // i≤n∧i=0}=>⟨[(1,(.ptr 0 0)),(qDa_13 n),qDa_17,(qDa_11 n),(16,(.v (.int .i64 i.1)))],[],1,[(qDa_9 P d n q st y)]⟩) (fun i:{i:Nat // i≤n∧i=0}=>n - i.1) dkaK15 (bw v 0 eb ec) (OutM pg Try.f52 46 ((.tup [.v (.int .i64 0),.v (.slice none 0 0)])) [] (bw v 0 eb ec)) (⟨i,hi1,hi2⟩:{i:Nat // i≤n∧i=0})))):=by
 exact dka_47 n d q y P st hE h0 i hi1 hi2 hqdka29_1 v eb ec hs
theorem dka_43 (n:Nat) (d q:Int) (y:Value) (P:PL) (st:Nat→Bool) (hE:roE n d q (cT P) P.length=0) (h0:(qDa_10 P d n q st y).length=0) (i:Nat) (hi1:i≤n) (hi2:i=0) (hqdka29_1:(ltI i n)=true) (v:BaseW) (eb:EB) (ec:EC) (hs:LN):Goes pg 46 dkaK42 ((qDa_2 P d i n q st y)) (BaseW.H (bw v 0 eb ec) hs) (Hd.AfterN pg 46 dkaK41 (bw v 0 eb ec) (Hd.AfterB pg 46 1 dkaK31 (bw v 0 eb ec) (Hd.StepC pg 46 0 (fun i:{i:Nat // i≤n∧i=0}=>⟨[(1,(.ptr 0 0)),(qDa_13 n),qDa_17,(qDa_11 n),(16,(.v (.int .i64 i.1)))],[],1,[(qDa_9 P d n q st y)]⟩) (fun i:{i:Nat // i≤n∧i=0}=>n - i.1) dkaK15 (bw v 0 eb ec) (OutM pg Try.f52 46 ((.tup [.v (.int .i64 0),.v (.slice none 0 0)])) [] (bw v 0 eb ec)) (⟨i,hi1,hi2⟩:{i:Nat // i≤n∧i=0})))):=by
 obtain ⟨hm,⟨ha1,ha2,ha3⟩,hp⟩:=roE_zero hE
 have hfl:=flt_le (stM n d q y P st) P.length
 have ghqdka29_1:=lT hqdka29_1
 refine gS (by kernel_rfl) ?_
 exact gL isN_e (gT cm (known_lta) 200 (T':=(qDa_1 P d i n q st y)) (e:=.normal) (ps:=[FreeL (cT P),IsRd (rdT [.v (.int .i64 n),.v (.int .i64 d),.v (.int .i64 q),AV.xl y P.length 3 (cT P)] (st)),P.length≤24,(qDa_10 P d n q st y).length=0]) [.go,.go,.go] (by kernel_rfl) (by kernel_rfl) ⟨(fP (cT_plain P)),⟨_,_,_,_,P,st,rfl⟩,(by omega),h0,trivial⟩ rfl) (Hd.en_n (dka_46 n d q y P st hE h0 i hi1 hi2 hqdka29_1 v eb ec hs))
theorem dka_40 (n:Nat) (d q:Int) (y:Value) (P:PL) (st:Nat→Bool) (hE:roE n d q (cT P) P.length=0) (h0:(qDa_10 P d n q st y).length=0) (i:Nat) (hi1:i≤n) (hi2:i=0) (hqdka29_1:(ltI i n)=true) (v:BaseW) (eb:EB) (ec:EC) (hs:LN):Goes pg 46 dkaK38 ((qDa_2 P d i n q st y)) (BaseW.H (bw v 0 eb ec) hs) (Hd.AfterB pg 46 1 dkaK31 (bw v 0 eb ec) (Hd.StepC pg 46 0 (fun i:{i:Nat // i≤n∧i=0}=>⟨[(1,(.ptr 0 0)),(qDa_13 n),qDa_17,(qDa_11 n),(16,(.v (.int .i64 i.1)))],[],1,[(qDa_9 P d n q st y)]⟩) (fun i:{i:Nat // i≤n∧i=0}=>n - i.1) dkaK15 (bw v 0 eb ec) (OutM pg Try.f52 46 ((.tup [.v (.int .i64 0),.v (.slice none 0 0)])) [] (bw v 0 eb ec)) (⟨i,hi1,hi2⟩:{i:Nat // i≤n∧i=0}))):=by
 exact gS (by kernel_rfl) (dka_43 n d q y P st hE h0 i hi1 hi2 hqdka29_1 v eb ec hs)
theorem dka_37 (n:Nat) (d q:Int) (y:Value) (P:PL) (st:Nat→Bool) (hE:roE n d q (cT P) P.length=0) (h0:(qDa_10 P d n q st y).length=0) (i:Nat) (hi1:i≤n) (hi2:i=0) (hqdka29_1:(ltI i n)=true) (v:BaseW) (eb:EB) (ec:EC) (hs:LN):Goes pg 46 dkaK35 ((qDa_4 P d i n q st y)) (BaseW.H (bw v 0 eb ec) hs) (Hd.AfterB pg 46 1 dkaK31 (bw v 0 eb ec) (Hd.StepC pg 46 0 (fun i:{i:Nat // i≤n∧i=0}=>⟨[(1,(.ptr 0 0)),(qDa_13 n),qDa_17,(qDa_11 n),(16,(.v (.int .i64 i.1)))],[],1,[(qDa_9 P d n q st y)]⟩) (fun i:{i:Nat // i≤n∧i=0}=>n - i.1) dkaK15 (bw v 0 eb ec) (OutM pg Try.f52 46 ((.tup [.v (.int .i64 0),.v (.slice none 0 0)])) [] (bw v 0 eb ec)) (⟨i,hi1,hi2⟩:{i:Nat // i≤n∧i=0}))):=by
 obtain ⟨hm,⟨ha1,ha2,ha3⟩,hp⟩:=roE_zero hE
 have hfl:=flt_le (stM n d q y P st) P.length
 have ghqdka29_1:=lT hqdka29_1
 refine gS (by kernel_rfl) ?_
 exact gL isN_e (gT cm (known_lta) 200 (T':=(qDa_2 P d i n q st y)) (e:=.normal) (ps:=[]) [.go] (by kernel_rfl) (by kernel_rfl) trivial rfl) (Hd.en_n (dka_40 n d q y P st hE h0 i hi1 hi2 hqdka29_1 v eb ec hs))
theorem dka_34 (n:Nat) (d q:Int) (y:Value) (P:PL) (st:Nat→Bool) (hE:roE n d q (cT P) P.length=0) (h0:(qDa_10 P d n q st y).length=0) (i:Nat) (hi1:i≤n) (hi2:i=0) (hqdka29_1:(ltI i n)=true) (v:BaseW) (eb:EB) (ec:EC) (hs:LN):Goes pg 46 dkaK33 ((qDa_5 P d i n q st y)) (BaseW.H (bw v 0 eb ec) hs) (Hd.AfterB pg 46 1 dkaK31 (bw v 0 eb ec) (Hd.StepC pg 46 0 (fun i:{i:Nat // i≤n∧i=0}=>⟨[(1,(.ptr 0 0)),(qDa_13 n),qDa_17,(qDa_11 n),(16,(.v (.int .i64 i.1)))],[],1,[(qDa_9 P d n q st y)]⟩) (fun i:{i:Nat // i≤n∧i=0}=>n - i.1) dkaK15 (bw v 0 eb ec) (OutM pg Try.f52 46 ((.tup [.v (.int .i64 0),.v (.slice none 0 0)])) [] (bw v 0 eb ec)) (⟨i,hi1,hi2⟩:{i:Nat // i≤n∧i=0}))):=by
 obtain ⟨hm,⟨ha1,ha2,ha3⟩,hp⟩:=roE_zero hE
 have hfl:=flt_le (stM n d q y P st) P.length
 have ghqdka29_1:=lT hqdka29_1
 refine gS (by kernel_rfl) ?_
 exact gL isN_e (gT cm (known_lta) 200 (T':=(qDa_4 P d i n q st y)) (e:=.normal) (ps:=[]) [.go,.go] (by kernel_rfl) (by kernel_rfl) trivial rfl) (Hd.en_n (dka_37 n d q y P st hE h0 i hi1 hi2 hqdka29_1 v eb ec hs))
theorem dka_32 (n:Nat) (d q:Int) (y:Value) (P:PL) (st:Nat→Bool) (hE:roE n d q (cT P) P.length=0) (h0:(qDa_10 P d n q st y).length=0) (i:Nat) (hi1:i≤n) (hi2:i=0) (hqdka29_1:(ltI i n)=true) (v:BaseW) (eb:EB) (ec:EC) (hs:LN):Goes pg 46 (hdC dkaK28) ((qDa_5 P d i n q st y)) (BaseW.H (bw v 0 eb ec) hs) (Hd.AfterN pg 46 dkaK31 (bw v 0 eb ec) (Hd.StepC pg 46 0 (fun i:{i:Nat // i≤n∧i=0}=>⟨[(1,(.ptr 0 0)),(qDa_13 n),qDa_17,(qDa_11 n),(16,(.v (.int .i64 i.1)))],[],1,[(qDa_9 P d n q st y)]⟩) (fun i:{i:Nat // i≤n∧i=0}=>n - i.1) dkaK15 (bw v 0 eb ec) (OutM pg Try.f52 46 ((.tup [.v (.int .i64 0),.v (.slice none 0 0)])) [] (bw v 0 eb ec)) (⟨i,hi1,hi2⟩:{i:Nat // i≤n∧i=0}))):=by
 exact Hd.goes_blkA (id:=1) (by kernel_rfl) (by kernel_rfl) (dka_34 n d q y P st hE h0 i hi1 hi2 hqdka29_1 v eb ec hs)
theorem dka_30 (n:Nat) (d q:Int) (y:Value) (P:PL) (st:Nat→Bool) (hE:roE n d q (cT P) P.length=0) (h0:(qDa_10 P d n q st y).length=0) (i:Nat) (hi1:i≤n) (hi2:i=0) (hqdka29_1:(ltI i n)=true) (v:BaseW) (eb:EB) (ec:EC) (hs:LN):Goes pg 46 dkaK28 ((qDa_5 P d i n q st y)) (BaseW.H (bw v 0 eb ec) hs) (Hd.StepC pg 46 0 (fun i:{i:Nat // i≤n∧i=0}=>⟨[(1,(.ptr 0 0)),(qDa_13 n),qDa_17,(qDa_11 n),(16,(.v (.int .i64 i.1)))],[],1,[(qDa_9 P d n q st y)]⟩) (fun i:{i:Nat // i≤n∧i=0}=>n - i.1) dkaK15 (bw v 0 eb ec) (OutM pg Try.f52 46 ((.tup [.v (.int .i64 0),.v (.slice none 0 0)])) [] (bw v 0 eb ec)) (⟨i,hi1,hi2⟩:{i:Nat // i≤n∧i=0})):=by
 exact gS (by kernel_rfl) (dka_32 n d q y P st hE h0 i hi1 hi2 hqdka29_1 v eb ec hs)
theorem dka_55 (n:Nat) (d q:Int) (y:Value) (P:PL) (st:Nat→Bool) (hE:roE n d q (cT P) P.length=0) (h0:(qDa_10 P d n q st y).length=0) (i0:Nat) (h0a:i0≤n) (h0b:i0=0) (hqdka29_1:(ltI i0 n)=false) (v:BaseW) (eb:EB) (ec:EC) (hs:LN):Goes pg 46 dkaK15 (⟨[(qDa_13 n),qDa_17],[],1,[]⟩) (BaseW.H (bw v 0 eb ec) hs) (OutM pg Try.f52 46 ((.tup [.v (.int .i64 0),.v (.slice none 0 0)])) [] (bw v 0 eb ec)):=by
 obtain ⟨hm,⟨ha1,ha2,ha3⟩,hp⟩:=roE_zero hE
 have hfl:=flt_le (stM n d q y P st) P.length
 have ghqdka29_1:=lF hqdka29_1
 exfalso
 omega
theorem dka_27 (n:Nat) (d q:Int) (y:Value) (P:PL) (st:Nat→Bool) (hE:roE n d q (cT P) P.length=0) (h0:(qDa_10 P d n q st y).length=0) (i:Nat) (hi1:i≤n) (hi2:i=0) (v:BaseW) (eb:EB) (ec:EC) (hs:LN):Goes pg 46 dkaK25 ((qDa_3 P d i n q st y)) (BaseW.H (bw v 0 eb ec) hs) (Hd.StepC pg 46 0 (fun i:{i:Nat // i≤n∧i=0}=>⟨[(1,(.ptr 0 0)),(qDa_13 n),qDa_17,(qDa_11 n),(16,(.v (.int .i64 i.1)))],[],1,[(qDa_9 P d n q st y)]⟩) (fun i:{i:Nat // i≤n∧i=0}=>n - i.1) dkaK15 (bw v 0 eb ec) (OutM pg Try.f52 46 ((.tup [.v (.int .i64 0),.v (.slice none 0 0)])) [] (bw v 0 eb ec)) (⟨i,hi1,hi2⟩:{i:Nat // i≤n∧i=0})):=by
 obtain ⟨hm,⟨ha1,ha2,ha3⟩,hp⟩:=roE_zero hE
 have hfl:=flt_le (stM n d q y P st) P.length
 refine gS (by kernel_rfl) ?_
 rcases bE (ltI i n) with hqdka29_1 | hqdka29_1
 ·skip
  have ghqdka29_1:=lT hqdka29_1
  exact gL isN_e (gT cm (known_lta) 200 (T':=(qDa_5 P d i n q st y)) (e:=.normal) (ps:=[ltI i n=true]) [.b true] (by kernel_rfl) (by kernel_rfl) ⟨hqdka29_1,trivial⟩ rfl) (Hd.en_n (dka_30 n d q y P st hE h0 i hi1 hi2 hqdka29_1 v eb ec hs))
 ·skip
  have ghqdka29_1:=lF hqdka29_1
  exact gL isX_e (gT cm (known_lta) 200 (T':=⟨[(qDa_13 n),qDa_17],[],1,[]⟩) (e:=.exit 0) (ps:=[ltI i n=false]) [.b false] (by kernel_rfl) (by kernel_rfl) ⟨hqdka29_1,trivial⟩ rfl) (Hd.en_o (by intro h; cases h) (Hd.en_sx (dka_55 n d q y P st hE h0 i hi1 hi2  hqdka29_1 v eb ec hs)))
theorem dka_24 (n:Nat) (d q:Int) (y:Value) (P:PL) (st:Nat→Bool) (hE:roE n d q (cT P) P.length=0) (h0:(qDa_10 P d n q st y).length=0) (i:Nat) (hi1:i≤n) (hi2:i=0) (v:BaseW) (eb:EB) (ec:EC) (hs:LN):Goes pg 46 dkaK22 (⟨[(1,(.ptr 0 0)),(qDa_13 n),qDa_17,(qDa_11 n),(16,(.v (.int .i64 i)))],[],1,[(qDa_9 P d n q st y)]⟩) (BaseW.H (bw v 0 eb ec) hs) (Hd.StepC pg 46 0 (fun i:{i:Nat // i≤n∧i=0}=>⟨[(1,(.ptr 0 0)),(qDa_13 n),qDa_17,(qDa_11 n),(16,(.v (.int .i64 i.1)))],[],1,[(qDa_9 P d n q st y)]⟩) (fun i:{i:Nat // i≤n∧i=0}=>n - i.1) dkaK15 (bw v 0 eb ec) (OutM pg Try.f52 46 ((.tup [.v (.int .i64 0),.v (.slice none 0 0)])) [] (bw v 0 eb ec)) (⟨i,hi1,hi2⟩:{i:Nat // i≤n∧i=0})):=by
 obtain ⟨hm,⟨ha1,ha2,ha3⟩,hp⟩:=roE_zero hE
 have hfl:=flt_le (stM n d q y P st) P.length
 refine gS (by kernel_rfl) ?_
 exact gL isN_e (gT cm (known_lta) 200 (T':=(qDa_3 P d i n q st y)) (e:=.normal) (ps:=[]) [.go] (by kernel_rfl) (by kernel_rfl) trivial rfl) (Hd.en_n (dka_27 n d q y P st hE h0 i hi1 hi2 v eb ec hs))
theorem dka_21 (n:Nat) (d q:Int) (y:Value) (P:PL) (st:Nat→Bool) (hE:roE n d q (cT P) P.length=0) (h0:(qDa_10 P d n q st y).length=0) (v:BaseW) (eb:EB) (ec:EC) (hs:LN):Goes pg 46 dkaK18 ((qDa_6 P d n q st y)) (BaseW.H (bw v 0 eb ec) hs) (Hd.AfterN pg 46 dkaK15 (bw v 0 eb ec) (OutM pg Try.f52 46 ((.tup [.v (.int .i64 0),.v (.slice none 0 0)])) [] (bw v 0 eb ec))):=by
 obtain ⟨hm,⟨ha1,ha2,ha3⟩,hp⟩:=roE_zero hE
 have hfl:=flt_le (stM n d q y P st) P.length
 exact Hd.goes_loopA (id:=0) (by kernel_rfl) (by kernel_rfl) (fun i:{i:Nat // i≤n∧i=0}=>⟨[(1,(.ptr 0 0)),(qDa_13 n),qDa_17,(qDa_11 n),(16,(.v (.int .i64 i.1)))],[],1,[(qDa_9 P d n q st y)]⟩) (fun i:{i:Nat // i≤n∧i=0}=>n - i.1) (fun ix_ hs=>dka_24 n d q y P st hE h0 ix_.1 ix_.2.1 ix_.2.2 v eb ec hs) ⟨0,Nat.zero_le _,rfl⟩ hs
theorem dka_20 (n:Nat) (d q:Int) (y:Value) (P:PL) (st:Nat→Bool) (hE:roE n d q (cT P) P.length=0) (h0:(qDa_10 P d n q st y).length=0) (v:BaseW) (eb:EB) (ec:EC) (hs:LN):Goes pg 46 dkaK18 ((qDa_6 P d n q st y)) (BaseW.H (bw v 0 eb ec) hs) (Hd.AfterN pg 46 dkaK15 (bw v 0 eb ec) (OutM pg Try.f52 46 ((.tup [.v (.int .i64 0),.v (.slice none 0 0)])) [] (bw v 0 eb ec))):=by
 exact dka_21 n d q y P st hE h0 v eb ec hs
theorem dka_17 (n:Nat) (d q:Int) (y:Value) (P:PL) (st:Nat→Bool) (hE:roE n d q (cT P) P.length=0) (h0:(qDa_10 P d n q st y).length=0) (v:BaseW) (eb:EB) (ec:EC) (hs:LN):Goes pg 46 dkaK16 ((qDa_7 P d n q st y)) (BaseW.H (bw v 0 eb ec) hs) (Hd.AfterN pg 46 dkaK15 (bw v 0 eb ec) (OutM pg Try.f52 46 ((.tup [.v (.int .i64 0),.v (.slice none 0 0)])) [] (bw v 0 eb ec))):=by
 obtain ⟨hm,⟨ha1,ha2,ha3⟩,hp⟩:=roE_zero hE
 have hfl:=flt_le (stM n d q y P st) P.length
 refine gS (by kernel_rfl) ?_
 exact gL isN_e (gT cm (known_lta) 200 (T':=(qDa_6 P d n q st y)) (e:=.normal) (ps:=[]) [.go,.go,.go,.go] (by kernel_rfl) (by kernel_rfl) trivial rfl) (Hd.en_n (dka_20 n d q y P st hE h0 v eb ec hs))
theorem dka_14 (n:Nat) (d q:Int) (y:Value) (P:PL) (st:Nat→Bool) (hE:roE n d q (cT P) P.length=0) (h0:(qDa_10 P d n q st y).length=0) (v:BaseW) (eb:EB) (ec:EC) (hs:LN):Goes pg 46 dkaK12 ((qDa_7 P d n q st y)) (BaseW.H (bw v 0 eb ec) hs) (OutM pg Try.f52 46 ((.tup [.v (.int .i64 0),.v (.slice none 0 0)])) [] (bw v 0 eb ec)):=by
 exact gS (by kernel_rfl) (dka_17 n d q y P st hE h0 v eb ec hs)
theorem dka_11 (n:Nat) (d q:Int) (y:Value) (P:PL) (st:Nat→Bool) (hE:roE n d q (cT P) P.length=0) (h0:(qDa_10 P d n q st y).length=0) (v:BaseW) (eb:EB) (ec:EC) (hs:LN):Goes pg 46 dkaK9 ((qDa_7 P d n q st y)) (BaseW.H (bw v 0 eb ec) hs) (OutM pg Try.f52 46 ((.tup [.v (.int .i64 0),.v (.slice none 0 0)])) [] (bw v 0 eb ec)):=by
 obtain ⟨hm,⟨ha1,ha2,ha3⟩,hp⟩:=roE_zero hE
 have hfl:=flt_le (stM n d q y P st) P.length
 refine gS (by kernel_rfl) ?_
 exact gL isN_e (gT cm (known_lta) 200 (T':=(qDa_7 P d n q st y)) (e:=.normal) (ps:=[]) [] (by kernel_rfl) (by kernel_rfl) trivial rfl) (Hd.en_n (dka_14 n d q y P st hE h0 v eb ec hs))
theorem dka_8 (n:Nat) (d q:Int) (y:Value) (P:PL) (st:Nat→Bool) (hE:roE n d q (cT P) P.length=0) (h0:(qDa_10 P d n q st y).length=0) (v:BaseW) (eb:EB) (ec:EC) (hs:LN):Goes pg 46 dkaK7 ((qDa_8 P d n q st y)) (BaseW.H (bw v 0 eb ec) hs) (OutM pg Try.f52 46 ((.tup [.v (.int .i64 0),.v (.slice none 0 0)])) [] (bw v 0 eb ec)):=by
 obtain ⟨hm,⟨ha1,ha2,ha3⟩,hp⟩:=roE_zero hE
 have hfl:=flt_le (stM n d q y P st) P.length
 refine gS (by kernel_rfl) ?_
 exact gL isN_e (gT cm (known_lta) 200 (T':=(qDa_7 P d n q st y)) (e:=.normal) (ps:=[]) [.go,.go,.go,.go,.go] (by kernel_rfl) (by kernel_rfl) trivial rfl) (Hd.en_n (dka_11 n d q y P st hE h0 v eb ec hs))
theorem dka_6 (n:Nat) (d q:Int) (y:Value) (P:PL) (st:Nat→Bool) (hE:roE n d q (cT P) P.length=0) (h0:(qDa_10 P d n q st y).length=0) (v:BaseW) (eb:EB) (ec:EC) (hs:LN):Goes pg 46 dkaK3 ((qDa_8 P d n q st y)) (BaseW.H (bw v 0 eb ec) hs) (OutM pg Try.f52 46 ((.tup [.v (.int .i64 0),.v (.slice none 0 0)])) [] (bw v 0 eb ec)):=by
 exact goes_scpL (by kernel_rfl) (dka_8 n d q y P st hE h0 v eb ec hs) nogoto_outM
theorem dka_5 (n:Nat) (d q:Int) (y:Value) (P:PL) (st:Nat→Bool) (hE:roE n d q (cT P) P.length=0) (h0:(qDa_10 P d n q st y).length=0) (v:BaseW) (eb:EB) (ec:EC) (hs:LN):Goes pg 46 dkaK3 ((qDa_8 P d n q st y)) (BaseW.H (bw v 0 eb ec) hs) (OutM pg Try.f52 46 ((.tup [.v (.int .i64 0),.v (.slice none 0 0)])) [] (bw v 0 eb ec)):=by
 exact dka_6 n d q y P st hE h0 v eb ec hs
theorem dka_2 (n:Nat) (d q:Int) (y:Value) (P:PL) (st:Nat→Bool) (hE:roE n d q (cT P) P.length=0) (h0:(qDa_10 P d n q st y).length=0) (v:BaseW) (eb:EB) (ec:EC) (hs:LN):Goes pg 46 dkaK1 (⟨[(0,(.agg (rdT [.v (.int .i64 n),.v (.int .i64 d),.v (.int .i64 q),.xl y P.length 3 (cT P)] (st))))],[],0,[]⟩) (BaseW.H (bw v 0 eb ec) hs) (OutM pg Try.f52 46 ((.tup [.v (.int .i64 0),.v (.slice none 0 0)])) [] (bw v 0 eb ec)):=by
 obtain ⟨hm,⟨ha1,ha2,ha3⟩,hp⟩:=roE_zero hE
 have hfl:=flt_le (stM n d q y P st) P.length
 refine gS (by kernel_rfl) ?_
 exact gL isN_e (gT cm (known_lta) 200 (T':=(qDa_8 P d n q st y)) (e:=.normal) (ps:=[]) [.go,.go,.go] (by kernel_rfl) (by kernel_rfl) trivial rfl) (Hd.en_n (dka_5 n d q y P st hE h0 v eb ec hs))
theorem dark_a (n:Nat) (d q:Int) (y:Value) (P:PL) (st:Nat→Bool) (hE:roE n d q (cT P) P.length=0) (h0:(qDa_10 P d n q st y).length=0):GivesM pg 52 [(.agg (rdT [.v (.int .i64 n),.v (.int .i64 d),.v (.int .i64 q),.xl y P.length 3 (cT P)] (st)))] [] ((.tup [.v (.int .i64 0),.v (.slice none 0 0)])) [] :=
 givesM_parts 46 (by kernel_rfl) Try.func52 (by kernel_rfl) (by kernel_rfl) (by kernel_rfl) (fun v eb ec=>goes_less (by kernel_rfl) (by kernel_rfl) (by kernel_rfl) (by kernel_rfl) (dka_2 n d q y P st hE h0 v eb ec []))
end
end Go.Proofs.Ytnphldmnakbknaa
