import Derived.Test.YtnphldmnakbknaaS6
set_option maxHeartbeats 4000000
set_option linter.all false
/- The posts that stand. -/
namespace Go.Proofs.Ytnphldmnakbknaa
open Go Ev
noncomputable section
theorem iRS8 {a:Int} (h : -9223372036854775808≤a) (k:a≤9223372036854775807):inR .i64 a:=⟨h,k⟩
section
variable (P : PL) (d : Int) (i k : Nat) (n q : Int) (st : Nat → Bool) (y : Value)
abbrev qS8_18:Nat×Ev.AV:=(3,(.v (Value.slice none 0 0)))
abbrev qS8_14:Nat×Ev.AV:=(8,(.v (.int .i64 P.length)))
abbrev qS8_15:Nat×Ev.AV:=(9,(.v (.int .i64 (((i + 1):Nat):Int))))
abbrev qS8_13:Ev.AB:=(.cells (rdT [(.v (.int .i64 (n))),(.v (.int .i64 (d))),(.v (.int .i64 (q))),(.xl (y) (P.length) 3 (cT P))] (st)) 67)
abbrev qS8_12:Nat×Ev.AB:=(0,(qS8_13 P d n q st y))
abbrev qS8_6:Ev.Lit:=⟨[(1,(.ptr 0 0)),qS8_18,(qS8_14 P),(qS8_15 i)],[],1,[(qS8_12 P d n q st y)]⟩
abbrev qS8_16:Nat×Ev.AB:=(1,(.row (cI (flt st (i + 1))) 3 1))
abbrev qS8_4:Ev.Lit:=⟨[(1,(.ptr 0 0)),(3,(.slu 1 0 (k + 1) 0)),(qS8_14 P),(qS8_15 i)],[],2,[(qS8_12 P d n q st y),(qS8_16 i st)]⟩
abbrev qS8_1:=(Ev.fam0 ((qS8_6 P d i n q st y):Ev.Lit) (fun k=>((qS8_4 P d i k n q st y):Ev.Lit)) (flt st (i + 1)).length)
abbrev qS8_2:=(Ev.fam0 ((qS8_6 P d i n q st y):Ev.Lit) (fun k=>((qS8_4 P d i k n q st y):Ev.Lit)))
abbrev qS8_3:Ev.Lit:=⟨[(1,(.ptr 0 0)),(3,(.slu 1 0 (k + 1 + 1) 0)),(qS8_14 P),(qS8_15 i)],[],2,[(qS8_12 P d n q st y),(qS8_16 i st)]⟩
abbrev qS8_5:Ev.Lit:=⟨[(1,(.ptr 0 0)),(3,(.slu 1 0 (0 + 1) 0)),(qS8_14 P),(qS8_15 i)],[],2,[(qS8_12 P d n q st y),(qS8_16 i st)]⟩
abbrev qS8_7:Ev.Lit:=⟨[(1,(.ptr 0 0)),qS8_18,(qS8_14 P),(9,(.v (.int .i64 i)))],[],1,[(qS8_12 P d n q st y)]⟩
abbrev qS8_8:Ev.Lit:=⟨[(1,(.ptr 0 0)),qS8_18,(qS8_14 P),(9,(.v (.int .i64 (.ofNat 0))))],[],1,[(qS8_12 P d n q st y)]⟩
abbrev qS8_9:Ev.Lit:=⟨[(1,(.ptr 0 0)),qS8_18],[],1,[(qS8_12 P d n q st y)]⟩
abbrev qS8_10:=(boolAt (rdT [.v (.int .i64 n),.v (.int .i64 d),.v (.int .i64 q),AV.xl y P.length 3 (cT P)] st) (0 + 4 + i * 1))
abbrev qS8_11:Ev.Lit:=⟨[(1,(.ptr 0 0))],[],1,[(qS8_12 P d n q st y)]⟩
abbrev qS8_17:Ev.AB:=(.row (cI (flt st P.length)) 3 1)
end
def chaK1:Code:=bodyC Try.f55
def chaK3:Code:=tlC chaK1
def chaK6:Code:=tlC chaK3
def chaK9:Code:=tlC chaK6
def chaK10:Code:=(hdC chaK6)
def chaK12:Code:=tlC chaK10
def chaK16:Code:=loopC chaK12
theorem cha_19 (n d q:Int) (y:Value) (P:PL) (st:Nat→Bool) (hm:P.length≤24) (h0:(flt st P.length).length=0) (h0b:True) (hqcha18_1:(ltI P.length P.length)=false) (v:BaseW) (eb:EB) (ec:EC) (hs:LN):Goes pg 21 chaK9 (⟨[qS8_18],[],1,[]⟩) (BaseW.H (bw v 0 eb ec) hs) (OutM pg Try.f55 21 ((.v (.slice none 0 0))) [] (bw v 0 eb ec)):=by
 have ghqcha18_1:=lF hqcha18_1
 exact gL isR_e (gK cm (kN) 200 (T':=⟨[(2,(.v (Value.slice none 0 0)))],[],0,[]⟩) (e:=.ret) (m:=1) (ps:=[]) [.go,.go] (by kernel_rfl) (by kernel_rfl) trivial rfl (by show 0≤1; decide) ⟨⟨nb_v _,trivial⟩,trivial,rfl⟩ (by show 0≤0; decide)) (en_eqM (r:=(.v (Value.slice none 0 0))) (ys:=[]) (by rfl) (by rfl) (en_retM (by kernel_rfl) (by kernel_rfl) rfl (.inr rfl)))
theorem cha_17 (n d q:Int) (y:Value) (P:PL) (st:Nat→Bool) (hm:P.length≤24) (h0:(flt st P.length).length=0) (i:Nat) (hi1:i≤P.length) (hi2:True) (v:BaseW) (eb:EB) (ec:EC) (hs:LN):Goes pg 21 chaK16 ((qS8_7 P d i n q st y)) (BaseW.H (bw v 0 eb ec) hs) (Hd.StepC pg 21 0 (fun i:{i:Nat // i≤P.length∧True}=>⟨[(1,(.ptr 0 0)),qS8_18,(qS8_14 P),(9,(.v (.int .i64 i.1)))],[],1,[(qS8_12 P d n q st y)]⟩) (fun i:{i:Nat // i≤P.length∧True}=>P.length - i.1) chaK9 (bw v 0 eb ec) (OutM pg Try.f55 21 ((.v (.slice none 0 0))) [] (bw v 0 eb ec)) (⟨i,hi1,hi2⟩:{i:Nat // i≤P.length∧True})):=by
 rcases bE (ltI i P.length) with hqcha18_1 | hqcha18_1
 ·skip
  have ghqcha18_1:=lT hqcha18_1
  rcases bE (qS8_10 P d i n q st y) with hqcha18_2 | hqcha18_2
  ·skip
   have hs:st i=true:=by rw [← rdT_bool (l:=[.v (.int .i64 n),.v (.int .i64 d),.v (.int .i64 q),.xl y P.length 3 (cT P)]) (st:=st) (i:=0 + 4 + i * 1) (j:=i) rfl (by omega) (by omega)]; exact hqcha18_2
   exfalso
   have h9:=flt_lenT hs rfl
   have h8:=flt_mono st (show i + 1≤P.length by omega)
   omega
  ·skip
   have hs:st i=false:=by rw [← rdT_bool (l:=[.v (.int .i64 n),.v (.int .i64 d),.v (.int .i64 q),.xl y P.length 3 (cT P)]) (st:=st) (i:=0 + 4 + i * 1) (j:=i) rfl (by omega) (by omega)]; exact hqcha18_2
   exact gL isN_e (gT cm (kN) 200 (T':=(qS8_6 P d i n q st y)) (e:=.normal) (ps:=[ltI i P.length=true,i < 24,loadL pg (rdT [.v (.int .i64 n),.v (.int .i64 d),.v (.int .i64 q),AV.xl y P.length 3 (cT P)] st) (0 + 4 + i * 1) 4=some (AV.v (Value.bool (qS8_10 P d i n q st y))),boolAt (rdT [.v (.int .i64 n),.v (.int .i64 d),.v (.int .i64 q),AV.xl y P.length 3 (cT P)] st) (0 + 4 + i * 1)=false,inR .i64 (((i:Nat):Int) + 1)]) [.go,.b true,.go,.go,.go,.go,.sym,.sym,.b false,.go,.go] (by kernel_rfl) (by kernel_rfl) ⟨hqcha18_1,(by omega),(rdT_ld rfl (by omega) (by omega) 4 (Try.underlying4) rfl),hqcha18_2,(iRS8 (by omega) (by omega)),trivial⟩ rfl) (eO (⟨i + 1,by omega,trivial⟩) (by show P.length - (i + 1) < P.length - i; omega) rfl)
 ·skip
  have ghqcha18_1:=lF hqcha18_1
  obtain rfl:i=P.length:=by omega
  exact gL isX_e (gT cm (kN) 200 (T':=⟨[qS8_18],[],1,[]⟩) (e:=.exit 0) (ps:=[ltI P.length P.length=false]) [.go,.b false] (by kernel_rfl) (by kernel_rfl) ⟨hqcha18_1,trivial⟩ rfl) (Hd.en_sx (cha_19 n d q y P st hm h0 hi2  hqcha18_1 v eb ec hs))
theorem cha_15 (n d q:Int) (y:Value) (P:PL) (st:Nat→Bool) (hm:P.length≤24) (h0:(flt st P.length).length=0) (v:BaseW) (eb:EB) (ec:EC) (hs:LN):Goes pg 21 chaK12 ((qS8_8 P d n q st y)) (BaseW.H (bw v 0 eb ec) hs) (Hd.AfterN pg 21 chaK9 (bw v 0 eb ec) (OutM pg Try.f55 21 ((.v (.slice none 0 0))) [] (bw v 0 eb ec))):=by
 exact Hd.goes_loopA (id:=0) (by kernel_rfl) (by kernel_rfl) (fun i:{i:Nat // i≤P.length∧True}=>⟨[(1,(.ptr 0 0)),qS8_18,(qS8_14 P),(9,(.v (.int .i64 i.1)))],[],1,[(qS8_12 P d n q st y)]⟩) (fun i:{i:Nat // i≤P.length∧True}=>P.length - i.1) (fun ix_ hs=>cha_17 n d q y P st hm h0 ix_.1 ix_.2.1 ix_.2.2 v eb ec hs) ⟨0,Nat.zero_le _,trivial⟩ hs
theorem cha_14 (n d q:Int) (y:Value) (P:PL) (st:Nat→Bool) (hm:P.length≤24) (h0:(flt st P.length).length=0) (v:BaseW) (eb:EB) (ec:EC) (hs:LN):Goes pg 21 chaK12 ((qS8_8 P d n q st y)) (BaseW.H (bw v 0 eb ec) hs) (Hd.AfterN pg 21 chaK9 (bw v 0 eb ec) (OutM pg Try.f55 21 ((.v (.slice none 0 0))) [] (bw v 0 eb ec))):=by
 exact cha_15 n d q y P st hm h0 v eb ec hs
theorem cha_11 (n d q:Int) (y:Value) (P:PL) (st:Nat→Bool) (hm:P.length≤24) (h0:(flt st P.length).length=0) (v:BaseW) (eb:EB) (ec:EC) (hs:LN):Goes pg 21 chaK10 ((qS8_9 P d n q st y)) (BaseW.H (bw v 0 eb ec) hs) (Hd.AfterN pg 21 chaK9 (bw v 0 eb ec) (OutM pg Try.f55 21 ((.v (.slice none 0 0))) [] (bw v 0 eb ec))):=by
 refine gS (by kernel_rfl) ?_
 exact gL isN_e (gT cm (kN) 200 (T':=(qS8_8 P d n q st y)) (e:=.normal) (ps:=[]) [.go,.go,.go,.go,.go] (by kernel_rfl) (by kernel_rfl) trivial rfl) (Hd.en_n (cha_14 n d q y P st hm h0 v eb ec hs))
theorem cha_8 (n d q:Int) (y:Value) (P:PL) (st:Nat→Bool) (hm:P.length≤24) (h0:(flt st P.length).length=0) (v:BaseW) (eb:EB) (ec:EC) (hs:LN):Goes pg 21 chaK6 ((qS8_9 P d n q st y)) (BaseW.H (bw v 0 eb ec) hs) (OutM pg Try.f55 21 ((.v (.slice none 0 0))) [] (bw v 0 eb ec)):=by
 exact gS (by kernel_rfl) (cha_11 n d q y P st hm h0 v eb ec hs)
theorem cha_5 (n d q:Int) (y:Value) (P:PL) (st:Nat→Bool) (hm:P.length≤24) (h0:(flt st P.length).length=0) (v:BaseW) (eb:EB) (ec:EC) (hs:LN):Goes pg 21 chaK3 ((qS8_11 P d n q st y)) (BaseW.H (bw v 0 eb ec) hs) (OutM pg Try.f55 21 ((.v (.slice none 0 0))) [] (bw v 0 eb ec)):=by
 refine gS (by kernel_rfl) ?_
 exact gL isN_e (gT cm (kN) 200 (T':=(qS8_9 P d n q st y)) (e:=.normal) (ps:=[]) [.go] (by kernel_rfl) (by kernel_rfl) trivial rfl) (Hd.en_n (cha_8 n d q y P st hm h0 v eb ec hs))
theorem cha_2 (n d q:Int) (y:Value) (P:PL) (st:Nat→Bool) (hm:P.length≤24) (h0:(flt st P.length).length=0) (v:BaseW) (eb:EB) (ec:EC) (hs:LN):Goes pg 21 chaK1 (⟨[(0,(.agg (rdT [.v (.int .i64 n),.v (.int .i64 d),.v (.int .i64 q),.xl y P.length 3 (cT P)] (st))))],[],0,[]⟩) (BaseW.H (bw v 0 eb ec) hs) (OutM pg Try.f55 21 ((.v (.slice none 0 0))) [] (bw v 0 eb ec)):=by
 refine gS (by kernel_rfl) ?_
 exact gL isN_e (gT cm (kN) 200 (T':=(qS8_11 P d n q st y)) (e:=.normal) (ps:=[]) [.go,.go] (by kernel_rfl) (by kernel_rfl) trivial rfl) (Hd.en_n (cha_5 n d q y P st hm h0 v eb ec hs))
theorem choice_a (n d q:Int) (y:Value) (P:PL) (st:Nat→Bool) (hm:P.length≤24) (h0:(flt st P.length).length=0):GivesM pg 55 [(.agg (rdT [.v (.int .i64 n),.v (.int .i64 d),.v (.int .i64 q),.xl y P.length 3 (cT P)] (st)))] [] ((.v (.slice none 0 0))) [] :=
 givesM_parts 21 (by kernel_rfl) Try.func55 (by kernel_rfl) (by kernel_rfl) (by kernel_rfl) (fun v eb ec=>goes_less (by kernel_rfl) (by kernel_rfl) (by kernel_rfl) (by kernel_rfl) (cha_2 n d q y P st hm h0 v eb ec []))
def chbK1:Code:=bodyC Try.f55
def chbK3:Code:=tlC chbK1
def chbK6:Code:=tlC chbK3
def chbK9:Code:=tlC chbK6
def chbK10:Code:=(hdC chbK6)
def chbK12:Code:=tlC chbK10
def chbK17:Code:=loopC chbK12
theorem chb_18 (n d q:Int) (y:Value) (P:PL) (st:Nat→Bool) (hm:P.length≤24) (h0:0 < (flt st P.length).length) (i:Nat) (hi1:i≤P.length) (hi2:True) (hc0:(flt st i).length=0) (v:BaseW) (eb:EB) (ec:EC) (hs:LN):Goes pg 21 chbK17 ((qS8_7 P d i n q st y)) (BaseW.H (bw v 0 eb ec) hs) (Hd.StepC pg 21 0 (fun i:{i:Nat // i≤P.length∧True}=>(Ev.fam0 (⟨[(1,(.ptr 0 0)),qS8_18,(qS8_14 P),(9,(.v (.int .i64 i.1)))],[],1,[(qS8_12 P d n q st y)]⟩:Ev.Lit) (fun k=>(⟨[(1,(.ptr 0 0)),(3,(.slu 1 0 (k + 1) 0)),(qS8_14 P),(9,(.v (.int .i64 i.1)))],[],2,[(qS8_12 P d n q st y),(1,(.row (cI (flt st i.1)) 3 1))]⟩:Ev.Lit)) (flt st i.1).length)) (fun i:{i:Nat // i≤P.length∧True}=>P.length - i.1) chbK9 (bw v 0 eb ec) (OutM pg Try.f55 21 ((.slu 0 0 (flt st P.length).length 0)) [(qS8_17 P st)] (bw v 0 eb ec)) (⟨i,hi1,hi2⟩:{i:Nat // i≤P.length∧True})):=by
 rcases bE (ltI i P.length) with hqchb19_1 | hqchb19_1
 ·skip
  have ghqchb19_1:=lT hqchb19_1
  rcases bE (qS8_10 P d i n q st y) with hqchb19_2 | hqchb19_2
  ·skip
   have hs:st i=true:=by rw [← rdT_bool (l:=[.v (.int .i64 n),.v (.int .i64 d),.v (.int .i64 q),.xl y P.length 3 (cT P)]) (st:=st) (i:=0 + 4 + i * 1) (j:=i) rfl (by omega) (by omega)]; exact hqchb19_2
   exact gL isN_e (gC cm (kN) 200 (T':=(qS8_5 P d i n q st y)) (e:=.normal) (m:=3) (ps:=[ltI i P.length=true,i < 24,loadL pg (rdT [.v (.int .i64 n),.v (.int .i64 d),.v (.int .i64 q),AV.xl y P.length 3 (cT P)] st) (0 + 4 + i * 1) 4=some (AV.v (Value.bool (qS8_10 P d i n q st y))),boolAt (rdT [.v (.int .i64 n),.v (.int .i64 d),.v (.int .i64 q),AV.xl y P.length 3 (cT P)] st) (0 + 4 + i * 1)=true,inR .i64 (((i:Nat):Int) + 1)]) [.go,.b true,.go,.go,.go,.go,.sym,.sym,.b true,.go,.go,.go,.go,.go,.go,.go,.go,.go,.go,.go,.go,.go,.go,.go,.go,.go] [0,2] [(.ptr 0 0),(.slu 2 0 1 0),(.v (.int .i64 P.length)),(.v (.int .i64 (((i:Nat):Int) + 1)))] [(qS8_13 P d n q st y),(.row [(.v (.int .i64 i))] 3 1)] (by kernel_rfl) (by kernel_rfl) ⟨hqchb19_1,(by omega),(rdT_ld rfl (by omega) (by omega) 4 (Try.underlying4) rfl),hqchb19_2,(iRS8 (by omega) (by omega)),trivial⟩ rfl rfl (by decide) rfl ⟨nr_ptr rfl,nr_slu rfl,nr_v _,nr_int (show ((((i:Nat):Int) + 1):Int)=(((i + 1):Nat):Int) from by omega),trivial⟩ ⟨⟨by show 0 < 2; decide,nrb_cells (nrl_free (freeL_rd _ _ _ _ _ _))⟩,⟨by show 1 < 2; decide,nrb_row (nrl_eq (show ((cI (flt st (i + 1))):List AV)=[(.v (.int .i64 i))] from by (rw [flt_rowT hs,flt_nil hc0]; rfl)) (cI_plain _))⟩,trivial⟩) (eO ⟨i + 1,by omega,trivial⟩ (by show P.length - (i + 1) < P.length - i; omega) (show ((qS8_5 P d i n q st y):Ev.Lit)=(qS8_1 P d i n q st y) from congrArg (qS8_2 P d i n q st y) (show (0 + 1:Nat)=(flt st (i + 1)).length from (show (flt st (i + 1)).length=0 + 1 from by exact flt_lenT hs hc0).symm)))
  ·skip
   have hs:st i=false:=by rw [← rdT_bool (l:=[.v (.int .i64 n),.v (.int .i64 d),.v (.int .i64 q),.xl y P.length 3 (cT P)]) (st:=st) (i:=0 + 4 + i * 1) (j:=i) rfl (by omega) (by omega)]; exact hqchb19_2
   exact gL isN_e (gC cm (kN) 200 (T':=(qS8_6 P d i n q st y)) (e:=.normal) (m:=1) (ps:=[ltI i P.length=true,i < 24,loadL pg (rdT [.v (.int .i64 n),.v (.int .i64 d),.v (.int .i64 q),AV.xl y P.length 3 (cT P)] st) (0 + 4 + i * 1) 4=some (AV.v (Value.bool (qS8_10 P d i n q st y))),boolAt (rdT [.v (.int .i64 n),.v (.int .i64 d),.v (.int .i64 q),AV.xl y P.length 3 (cT P)] st) (0 + 4 + i * 1)=false,inR .i64 (((i:Nat):Int) + 1)]) [.go,.b true,.go,.go,.go,.go,.sym,.sym,.b false,.go,.go] [0] [(.ptr 0 0),(.v (Value.slice none 0 0)),(.v (.int .i64 P.length)),(.v (.int .i64 (((i:Nat):Int) + 1)))] [(qS8_13 P d n q st y)] (by kernel_rfl) (by kernel_rfl) ⟨hqchb19_1,(by omega),(rdT_ld rfl (by omega) (by omega) 4 (Try.underlying4) rfl),hqchb19_2,(iRS8 (by omega) (by omega)),trivial⟩ rfl rfl (by decide) rfl ⟨nr_ptr rfl,nr_v _,nr_v _,nr_int (show ((((i:Nat):Int) + 1):Int)=(((i + 1):Nat):Int) from by omega),trivial⟩ ⟨⟨by show 0 < 1; decide,nrb_cells (nrl_free (freeL_rd _ _ _ _ _ _))⟩,trivial⟩) (eO ⟨i + 1,by omega,trivial⟩ (by show P.length - (i + 1) < P.length - i; omega) (show ((qS8_6 P d i n q st y):Ev.Lit)=(qS8_1 P d i n q st y) from congrArg (qS8_2 P d i n q st y) (show (0:Nat)=(flt st (i + 1)).length from (show (flt st (i + 1)).length=0 from by exact flt_lenF hs hc0).symm)))
 ·skip
  have ghqchb19_1:=lF hqchb19_1
  exfalso
  have e:i=P.length:=by omega
  rw [e] at hc0
  omega
theorem chb_22 (n d q:Int) (y:Value) (P:PL) (st:Nat→Bool) (hm:P.length≤24) (h0:0 < (flt st P.length).length) (h0b:True) (k:Nat) (hc0:(flt st (P.length)).length=k + 1) (hqchb21_1:(ltI P.length P.length)=false) (v:BaseW) (eb:EB) (ec:EC) (hs:LN):Goes pg 21 chbK9 (⟨[(3,(.slu 1 0 (k + 1) 0))],[],2,[(1,(.row (cI (flt st (P.length))) 3 1))]⟩) (BaseW.H (bw v 0 eb ec) hs) (OutM pg Try.f55 21 ((.slu 0 0 (flt st P.length).length 0)) [(qS8_17 P st)] (bw v 0 eb ec)):=by
 have ghqchb21_1:=lF hqchb21_1
 exact gL isR_e (gC cm (kN) 200 (T':=⟨[(2,(.slu 0 0 (k + 1) 0))],[],1,[(0,(qS8_17 P st))]⟩) (e:=.ret) (m:=2) (ps:=[]) [.go,.go] [1] [(.slu 1 0 (k + 1) 0)] [(qS8_17 P st)] (by kernel_rfl) (by kernel_rfl) trivial rfl rfl (by decide) rfl ⟨nr_slu rfl,trivial⟩ ⟨⟨by show 0 < 1; decide,nrb_row (nrl_plain (cI_plain _))⟩,trivial⟩) (en_eqM (r:=(.slu 0 0 (k + 1) 0)) (ys:=[(qS8_17 P st)]) (by rw [hc0]) (by rfl) (en_retM (by kernel_rfl) (by kernel_rfl) rfl (.inr rfl)))
theorem chb_20 (n d q:Int) (y:Value) (P:PL) (st:Nat→Bool) (hm:P.length≤24) (h0:0 < (flt st P.length).length) (i k:Nat) (hi1:i≤P.length) (hi2:True) (hc0:(flt st i).length=k + 1) (v:BaseW) (eb:EB) (ec:EC) (hs:LN):Goes pg 21 chbK17 (⟨[(1,(.ptr 0 0)),(3,(.slu 1 0 (k + 1) 0)),(qS8_14 P),(9,(.v (.int .i64 i)))],[],2,[(qS8_12 P d n q st y),(1,(.row (cI (flt st i)) 3 1))]⟩) (BaseW.H (bw v 0 eb ec) hs) (Hd.StepC pg 21 0 (fun i:{i:Nat // i≤P.length∧True}=>(Ev.fam0 (⟨[(1,(.ptr 0 0)),qS8_18,(qS8_14 P),(9,(.v (.int .i64 i.1)))],[],1,[(qS8_12 P d n q st y)]⟩:Ev.Lit) (fun k=>(⟨[(1,(.ptr 0 0)),(3,(.slu 1 0 (k + 1) 0)),(qS8_14 P),(9,(.v (.int .i64 i.1)))],[],2,[(qS8_12 P d n q st y),(1,(.row (cI (flt st i.1)) 3 1))]⟩:Ev.Lit)) (flt st i.1).length)) (fun i:{i:Nat // i≤P.length∧True}=>P.length - i.1) chbK9 (bw v 0 eb ec) (OutM pg Try.f55 21 ((.slu 0 0 (flt st P.length).length 0)) [(qS8_17 P st)] (bw v 0 eb ec)) (⟨i,hi1,hi2⟩:{i:Nat // i≤P.length∧True})):=by
 rcases bE (ltI i P.length) with hqchb21_1 | hqchb21_1
 ·skip
  have ghqchb21_1:=lT hqchb21_1
  rcases bE (qS8_10 P d i n q st y) with hqchb21_2 | hqchb21_2
  ·skip
   have hs:st i=true:=by rw [← rdT_bool (l:=[.v (.int .i64 n),.v (.int .i64 d),.v (.int .i64 q),.xl y P.length 3 (cT P)]) (st:=st) (i:=0 + 4 + i * 1) (j:=i) rfl (by omega) (by omega)]; exact hqchb21_2
   exact gL isN_e (gC cm (kN) 200 (T':=(qS8_3 P d i k n q st y)) (e:=.normal) (m:=4) (ps:=[ltI i P.length=true,i < 24,loadL pg (rdT [.v (.int .i64 n),.v (.int .i64 d),.v (.int .i64 q),AV.xl y P.length 3 (cT P)] st) (0 + 4 + i * 1) 4=some (AV.v (Value.bool (qS8_10 P d i n q st y))),boolAt (rdT [.v (.int .i64 n),.v (.int .i64 d),.v (.int .i64 q),AV.xl y P.length 3 (cT P)] st) (0 + 4 + i * 1)=true,k + 1≤k + 1,k + 1≤k + 1,allOne (List.take (1 * 1) (List.drop 0 (splice (repL 1 (List.map AV.v (Value.int IntKind.i64 0).cells.toList)) (0 * 1) (AV.v (Value.int IntKind.i64 i)).cells)))=true,¬k + 1 + 1≤k + 1,k + 1 + 1≤1000000,((List.take ((k + 1) * 1) (List.drop 0 (cI (flt st i)))):List AV).length + ([(.v (.int .i64 i))]:List AV).length=(k + 1 + 1) * 1,0 + (k + 1) * 1≤((cI (flt st i)):List AV).length,inR .i64 (((i:Nat):Int) + 1)]) [.go,.b true,.go,.go,.go,.go,.sym,.sym,.b true,.go,.go,.go,.go,.go,.go,.go,.go,.go,.sym,.go,.go,.nat,.go,.go,.go,.go] [0,3] [(.ptr 0 0),(.slu 3 0 (k + 1 + 1) 0),(.v (.int .i64 P.length)),(.v (.int .i64 (((i:Nat):Int) + 1)))] [(qS8_13 P d n q st y),(.row ((List.take ((k + 1) * 1) (List.drop 0 (cI (flt st i)))) ++ [(.v (.int .i64 i))]) 3 1)] (by kernel_rfl) (by kernel_rfl) ⟨hqchb21_1,(by omega),(rdT_ld rfl (by omega) (by omega) 4 (Try.underlying4) rfl),hqchb21_2,(Nat.le_refl _),(Nat.le_refl _),rfl,(by omega),(by have h9:=flt_le st i; omega),(by rw [takeF hc0,cI_len,hc0]; show k + 1 + 1=_; omega),(by show _≤(cI _).length; rw [cI_len,hc0]; omega),(iRS8 (by omega) (by omega)),trivial⟩ rfl rfl (by decide) rfl ⟨nr_ptr rfl,nr_slu rfl,nr_v _,nr_int (show ((((i:Nat):Int) + 1):Int)=(((i + 1):Nat):Int) from by omega),trivial⟩ ⟨⟨by show 0 < 2; decide,nrb_cells (nrl_free (freeL_rd _ _ _ _ _ _))⟩,⟨by show 1 < 2; decide,nrb_row (nrl_eq (show ((cI (flt st (i + 1))):List AV)=((List.take ((k + 1) * 1) (List.drop 0 (cI (flt st i)))) ++ [(.v (.int .i64 i))]) from by (rw [takeF hc0]; exact flt_rowT hs)) (cI_plain _))⟩,trivial⟩) (eO ⟨i + 1,by omega,trivial⟩ (by show P.length - (i + 1) < P.length - i; omega) (show ((qS8_3 P d i k n q st y):Ev.Lit)=(qS8_1 P d i n q st y) from congrArg (qS8_2 P d i n q st y) (show (k + 1 + 1:Nat)=(flt st (i + 1)).length from (show (flt st (i + 1)).length=k + 1 + 1 from by exact flt_lenT hs hc0).symm)))
  ·skip
   have hs:st i=false:=by rw [← rdT_bool (l:=[.v (.int .i64 n),.v (.int .i64 d),.v (.int .i64 q),.xl y P.length 3 (cT P)]) (st:=st) (i:=0 + 4 + i * 1) (j:=i) rfl (by omega) (by omega)]; exact hqchb21_2
   exact gL isN_e (gC cm (kN) 200 (T':=(qS8_4 P d i k n q st y)) (e:=.normal) (m:=2) (ps:=[ltI i P.length=true,i < 24,loadL pg (rdT [.v (.int .i64 n),.v (.int .i64 d),.v (.int .i64 q),AV.xl y P.length 3 (cT P)] st) (0 + 4 + i * 1) 4=some (AV.v (Value.bool (qS8_10 P d i n q st y))),boolAt (rdT [.v (.int .i64 n),.v (.int .i64 d),.v (.int .i64 q),AV.xl y P.length 3 (cT P)] st) (0 + 4 + i * 1)=false,inR .i64 (((i:Nat):Int) + 1)]) [.go,.b true,.go,.go,.go,.go,.sym,.sym,.b false,.go,.go] [0,1] [(.ptr 0 0),(.slu 1 0 (k + 1) 0),(.v (.int .i64 P.length)),(.v (.int .i64 (((i:Nat):Int) + 1)))] [(qS8_13 P d n q st y),(.row (cI (flt st i)) 3 1)] (by kernel_rfl) (by kernel_rfl) ⟨hqchb21_1,(by omega),(rdT_ld rfl (by omega) (by omega) 4 (Try.underlying4) rfl),hqchb21_2,(iRS8 (by omega) (by omega)),trivial⟩ rfl rfl (by decide) rfl ⟨nr_ptr rfl,nr_slu rfl,nr_v _,nr_int (show ((((i:Nat):Int) + 1):Int)=(((i + 1):Nat):Int) from by omega),trivial⟩ ⟨⟨by show 0 < 2; decide,nrb_cells (nrl_free (freeL_rd _ _ _ _ _ _))⟩,⟨by show 1 < 2; decide,nrb_row (nrl_eq (show ((cI (flt st (i + 1))):List AV)=(cI (flt st i)) from by rw [flt_rowF hs]) (cI_plain _))⟩,trivial⟩) (eO ⟨i + 1,by omega,trivial⟩ (by show P.length - (i + 1) < P.length - i; omega) (show ((qS8_4 P d i k n q st y):Ev.Lit)=(qS8_1 P d i n q st y) from congrArg (qS8_2 P d i n q st y) (show (k + 1:Nat)=(flt st (i + 1)).length from (show (flt st (i + 1)).length=k + 1 from by exact flt_lenF hs hc0).symm)))
 ·skip
  have ghqchb21_1:=lF hqchb21_1
  obtain rfl:i=P.length:=by omega
  exact gL isX_e (gT cm (kN) 200 (T':=⟨[(3,(.slu 1 0 (k + 1) 0))],[],2,[(1,(.row (cI (flt st (P.length))) 3 1))]⟩) (e:=.exit 0) (ps:=[ltI P.length P.length=false]) [.go,.b false] (by kernel_rfl) (by kernel_rfl) ⟨hqchb21_1,trivial⟩ rfl) (Hd.en_sx (chb_22 n d q y P st hm h0 hi2 k hc0 hqchb21_1 v eb ec hs))
theorem chb_16 (n d q:Int) (y:Value) (P:PL) (st:Nat→Bool) (hm:P.length≤24) (h0:0 < (flt st P.length).length) (v:BaseW) (eb:EB) (ec:EC) (hs:LN):Goes pg 21 chbK12 ((qS8_8 P d n q st y)) (BaseW.H (bw v 0 eb ec) hs) (Hd.AfterN pg 21 chbK9 (bw v 0 eb ec) (OutM pg Try.f55 21 ((.slu 0 0 (flt st P.length).length 0)) [(qS8_17 P st)] (bw v 0 eb ec))):=by
 exact Hd.goes_loopA (id:=0) (by kernel_rfl) (by kernel_rfl) (fun i:{i:Nat // i≤P.length∧True}=>(Ev.fam0 (⟨[(1,(.ptr 0 0)),qS8_18,(qS8_14 P),(9,(.v (.int .i64 i.1)))],[],1,[(qS8_12 P d n q st y)]⟩:Ev.Lit) (fun k=>(⟨[(1,(.ptr 0 0)),(3,(.slu 1 0 (k + 1) 0)),(qS8_14 P),(9,(.v (.int .i64 i.1)))],[],2,[(qS8_12 P d n q st y),(1,(.row (cI (flt st i.1)) 3 1))]⟩:Ev.Lit)) (flt st i.1).length)) (fun i:{i:Nat // i≤P.length∧True}=>P.length - i.1) (fun ix_ hs=>match ix_ with | ⟨i,hi1,hi2⟩=>fam0_goesK (P:=(fun t_=>Goes pg 21 chbK17 t_ (BaseW.H (bw v 0 eb ec) hs) (Hd.StepC pg 21 0 (fun i:{i:Nat // i≤P.length∧True}=>(Ev.fam0 (⟨[(1,(.ptr 0 0)),qS8_18,(qS8_14 P),(9,(.v (.int .i64 i.1)))],[],1,[(qS8_12 P d n q st y)]⟩:Ev.Lit) (fun k=>(⟨[(1,(.ptr 0 0)),(3,(.slu 1 0 (k + 1) 0)),(qS8_14 P),(9,(.v (.int .i64 i.1)))],[],2,[(qS8_12 P d n q st y),(1,(.row (cI (flt st i.1)) 3 1))]⟩:Ev.Lit)) (flt st i.1).length)) (fun i:{i:Nat // i≤P.length∧True}=>P.length - i.1) chbK9 (bw v 0 eb ec) (OutM pg Try.f55 21 ((.slu 0 0 (flt st P.length).length 0)) [(qS8_17 P st)] (bw v 0 eb ec)) (⟨i,hi1,hi2⟩:{i:Nat // i≤P.length∧True})))) (fun hc0=>chb_18 n d q y P st hm h0 i hi1 hi2 hc0 v eb ec hs) (fun k hc0=>chb_20 n d q y P st hm h0 i k hi1 hi2 hc0 v eb ec hs)) ⟨0,Nat.zero_le _,trivial⟩ hs
theorem chb_14 (n d q:Int) (y:Value) (P:PL) (st:Nat→Bool) (hm:P.length≤24) (h0:0 < (flt st P.length).length) (v:BaseW) (eb:EB) (ec:EC) (hs:LN):Goes pg 21 chbK12 ((qS8_8 P d n q st y)) (BaseW.H (bw v 0 eb ec) hs) (Hd.AfterN pg 21 chbK9 (bw v 0 eb ec) (OutM pg Try.f55 21 ((.slu 0 0 (flt st P.length).length 0)) [(qS8_17 P st)] (bw v 0 eb ec))):=by
 exact chb_16 n d q y P st hm h0 v eb ec hs
theorem chb_11 (n d q:Int) (y:Value) (P:PL) (st:Nat→Bool) (hm:P.length≤24) (h0:0 < (flt st P.length).length) (v:BaseW) (eb:EB) (ec:EC) (hs:LN):Goes pg 21 chbK10 ((qS8_9 P d n q st y)) (BaseW.H (bw v 0 eb ec) hs) (Hd.AfterN pg 21 chbK9 (bw v 0 eb ec) (OutM pg Try.f55 21 ((.slu 0 0 (flt st P.length).length 0)) [(qS8_17 P st)] (bw v 0 eb ec))):=by
 refine gS (by kernel_rfl) ?_
 exact gL isN_e (gT cm (kN) 200 (T':=(qS8_8 P d n q st y)) (e:=.normal) (ps:=[]) [.go,.go,.go,.go,.go] (by kernel_rfl) (by kernel_rfl) trivial rfl) (Hd.en_n (chb_14 n d q y P st hm h0 v eb ec hs))
theorem chb_8 (n d q:Int) (y:Value) (P:PL) (st:Nat→Bool) (hm:P.length≤24) (h0:0 < (flt st P.length).length) (v:BaseW) (eb:EB) (ec:EC) (hs:LN):Goes pg 21 chbK6 ((qS8_9 P d n q st y)) (BaseW.H (bw v 0 eb ec) hs) (OutM pg Try.f55 21 ((.slu 0 0 (flt st P.length).length 0)) [(qS8_17 P st)] (bw v 0 eb ec)):=by
 exact gS (by kernel_rfl) (chb_11 n d q y P st hm h0 v eb ec hs)
theorem chb_5 (n d q:Int) (y:Value) (P:PL) (st:Nat→Bool) (hm:P.length≤24) (h0:0 < (flt st P.length).length) (v:BaseW) (eb:EB) (ec:EC) (hs:LN):Goes pg 21 chbK3 ((qS8_11 P d n q st y)) (BaseW.H (bw v 0 eb ec) hs) (OutM pg Try.f55 21 ((.slu 0 0 (flt st P.length).length 0)) [(qS8_17 P st)] (bw v 0 eb ec)):=by
 refine gS (by kernel_rfl) ?_
 exact gL isN_e (gT cm (kN) 200 (T':=(qS8_9 P d n q st y)) (e:=.normal) (ps:=[]) [.go] (by kernel_rfl) (by kernel_rfl) trivial rfl) (Hd.en_n (chb_8 n d q y P st hm h0 v eb ec hs))
theorem chb_2 (n d q:Int) (y:Value) (P:PL) (st:Nat→Bool) (hm:P.length≤24) (h0:0 < (flt st P.length).length) (v:BaseW) (eb:EB) (ec:EC) (hs:LN):Goes pg 21 chbK1 (⟨[(0,(.agg (rdT [.v (.int .i64 n),.v (.int .i64 d),.v (.int .i64 q),.xl y P.length 3 (cT P)] (st))))],[],0,[]⟩) (BaseW.H (bw v 0 eb ec) hs) (OutM pg Try.f55 21 ((.slu 0 0 (flt st P.length).length 0)) [(qS8_17 P st)] (bw v 0 eb ec)):=by
 refine gS (by kernel_rfl) ?_
 exact gL isN_e (gT cm (kN) 200 (T':=(qS8_11 P d n q st y)) (e:=.normal) (ps:=[]) [.go,.go] (by kernel_rfl) (by kernel_rfl) trivial rfl) (Hd.en_n (chb_5 n d q y P st hm h0 v eb ec hs))
theorem choice_b (n d q:Int) (y:Value) (P:PL) (st:Nat→Bool) (hm:P.length≤24) (h0:0 < (flt st P.length).length):GivesM pg 55 [(.agg (rdT [.v (.int .i64 n),.v (.int .i64 d),.v (.int .i64 q),.xl y P.length 3 (cT P)] (st)))] [] ((.slu 0 0 (flt st P.length).length 0)) [(qS8_17 P st)] :=
 givesM_parts 21 (by kernel_rfl) Try.func55 (by kernel_rfl) (by kernel_rfl) (by kernel_rfl) (fun v eb ec=>goes_less (by kernel_rfl) (by kernel_rfl) (by kernel_rfl) (by kernel_rfl) (chb_2 n d q y P st hm h0 v eb ec []))
end
end Go.Proofs.Ytnphldmnakbknaa
