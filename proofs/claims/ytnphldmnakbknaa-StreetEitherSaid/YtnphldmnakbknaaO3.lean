import Derived.Test.YtnphldmnakbknaaN4
set_option maxHeartbeats 4000000
set_option linter.all false
/- Mathematics of StreetEither. -/
namespace Go.Proofs.Ytnphldmnakbknaa
open Go Ev
noncomputable section
theorem iRO3 {a:Int} (h : -9223372036854775808≤a) (k:a≤9223372036854775807):inR .i64 a:=⟨h,k⟩
section
variable (P : PL) (b d : Int) (i : Nat) (nI q : Int) (y : Value)
abbrev qO3_12:Nat×Ev.AV:=(6,(.v (.int .i64 (((i + 1):Nat):Int))))
abbrev qO3_11:Ev.AB:=(.cells [(.v (.int .i64 (nI))),(.v (.int .i64 (d))),(.v (.int .i64 (q))),(.xl (y) (P.length) 3 (cT P))] 24)
abbrev qO3_10:Nat×Ev.AB:=(0,(qO3_11 P d nI q y))
abbrev qO3_15:Nat×Ev.AV:=(5,(.v (Value.slice none 0 0)))
abbrev qO3_4:Ev.Lit:=⟨[(1,(.v (.int .u32 (b)))),(2,(.ptr 0 0)),qO3_15,(qO3_12 i)],[],1,[(qO3_10 P d nI q y)]⟩
abbrev qO3_5:Ev.Lit:=⟨[(1,(.v (.int .u32 (b)))),(2,(.ptr 0 0)),qO3_15,(6,(.v (.int .i64 ((i:Nat):Int))))],[],1,[(qO3_10 P d nI q y)]⟩
abbrev qO3_6:Ev.Lit:=⟨[(1,(.v (.int .u32 (b)))),(2,(.ptr 0 0)),qO3_15,(6,(.v (.int .i64 (.ofNat 0))))],[],1,[(qO3_10 P d nI q y)]⟩
abbrev qO3_7:Ev.Lit:=⟨[(1,(.v (.int .u32 (b)))),(2,(.ptr 0 0)),qO3_15],[],1,[(qO3_10 P d nI q y)]⟩
abbrev qO3_8:Ev.Lit:=⟨[(1,(.v (.int .u32 (b)))),(2,(.ptr 0 0))],[],1,[(qO3_10 P d nI q y)]⟩
abbrev qO3_9:Ev.Lit:=⟨[(0,(.agg [.v (.int .i64 nI),.v (.int .i64 d),.v (.int .i64 q),.xl y P.length 3 (cT P)])),(1,(.v (.int .u32 b)))],[],0,[]⟩
end
theorem sub_len:∀ {L D:List Int},L.Pairwise (· < ·)→(∀ x,x∈L→x∈D)→L.length≤D.length
 | [],_,_,_=>Nat.zero_le _
 | x :: l,D,h,hs=>by
  have hx:=hs x (List.mem_cons_self ..)
  have h1:=List.pairwise_cons.1 h
  have h2:=sub_len (L:=l) (D:=D.erase x) h1.2 (fun z hz=>by
   have:=h1.1 z hz
   exact (List.mem_erase_of_ne (by omega)).2 (hs z (List.mem_cons_of_mem _ hz)))
  have h3:=List.length_erase_of_mem hx
  have h4:=List.length_pos_of_mem hx
  rw [List.length_cons]
  omega
theorem either_14 {n m:Nat} {d q p:Int} {c:List AV} {C D:List Int} (hE:icE ((n:Nat):Int) d q c m (cI C) C.length=0) (hh:∀ j,j < n→d < litF c q (cI C) C.length j) (hp:0≤p∧p < n) (hdd:ddP (cI C) C.length (cI D) D.length d) :
  cdE ((n:Nat):Int) d q c m (cI C) C.length p (cI D) D.length=14:=by
 obtain ⟨-,hch⟩:=icE_zero hE
 have h1:=hh p.toNat (by omega)
 rw [← ll_len,ll_filter] at h1
 refine cdE_lv hE ⟨hp,hdd⟩ (lvB_true.2 ?_)
 have hd:=hdd.1
 rcases Classical.em (∀ x,x∈C.filter (fun x=>lgB c q x.toNat p.toNat)→x∈D) with h2 | h2
 ·have h3:=sub_len ((ch_pair hch).filter _) h2
  omega
 ·obtain ⟨x,h3⟩:=Classical.not_forall.1 h2
  obtain ⟨h4,h5⟩:=Classical.not_imp.1 h3
  obtain ⟨h6,h7⟩:=List.mem_filter.1 h4
  obtain ⟨i,hi,e⟩:=List.getElem_of_mem h6
  have e2:intAt (cI C) (i * 1)=x:=by rw [Nat.mul_one,cI_int hi]; exact e
  refine ⟨i,hi,?_,?_⟩
  ·rw [e2]
   cases h8:inB (cI D) D.length x with
   | false=>rfl
   | true=>exact absurd (inB_mem.1 h8) h5
  ·rw [e2]; exact lgB_true.1 h7
def mkB (b:Int) (i:Nat):Bool:=IntKind.u32.wrap (((BitVec.ofInt IntKind.u32.bits (b.fdiv (2 ^ min (((i:Nat):Int)).toNat IntKind.u32.bits)) &&& BitVec.ofInt IntKind.u32.bits 1).toNat:Nat):Int) == 1
section
variable (P : PL) (b d : Int) (i k : Nat) (nI q : Int) (y : Value)
abbrev qO3_13:Nat×Ev.AB:=(1,(.row (cI (flt (mkB b) (i + 1))) 3 1))
abbrev qO3_1:Ev.Lit:=⟨[(1,(.v (.int .u32 (b)))),(2,(.ptr 0 0)),(5,(.slu 1 0 (k + 1 + 1) 0)),(qO3_12 i)],[],2,[(qO3_10 P d nI q y),(qO3_13 b i)]⟩
abbrev qO3_2:Ev.Lit:=⟨[(1,(.v (.int .u32 (b)))),(2,(.ptr 0 0)),(5,(.slu 1 0 (k + 1) 0)),(qO3_12 i)],[],2,[(qO3_10 P d nI q y),(qO3_13 b i)]⟩
abbrev qO3_3:Ev.Lit:=⟨[(1,(.v (.int .u32 (b)))),(2,(.ptr 0 0)),(5,(.slu 1 0 (0 + 1) 0)),(qO3_12 i)],[],2,[(qO3_10 P d nI q y),(qO3_13 b i)]⟩
abbrev qO3_14:Ev.AB:=(.row (cI (flt (mkB b) P.length)) 3 1)
end
def czaK1:Code:=bodyC Try.f35
def czaK3:Code:=tlC czaK1
def czaK6:Code:=tlC czaK3
def czaK9:Code:=tlC czaK6
def czaK10:Code:=(hdC czaK6)
def czaK12:Code:=tlC czaK10
def czaK16:Code:=loopC czaK12
theorem cza_19 (nI d q:Int) (y:Value) (P:PL) (b:Int) (hm:P.length≤24) (hb:0≤b∧b≤4294967295) (h0:(flt (mkB b) P.length).length=0) (h0b:True) (hqcza18_1:(ltI ((P.length:Nat):Int) ((P.length:Nat):Int))=false) (v:BaseW) (eb:EB) (ec:EC) (hs:LN):Goes pg 24 czaK9 (⟨[qO3_15],[],1,[]⟩) (BaseW.H (bw v 0 eb ec) hs) (OutM pg Try.f35 24 ((.v (.slice none 0 0))) [] (bw v 0 eb ec)):=by
 have ghqcza18_1:=lF hqcza18_1
 exact gL isR_e (gK cm (kN) 200 (T':=⟨[(4,(.v (Value.slice none 0 0)))],[],0,[]⟩) (e:=.ret) (m:=1) (ps:=[]) [.go,.go] (by kernel_rfl) (by kernel_rfl) trivial rfl (by show 0≤1; decide) ⟨⟨nb_v _,trivial⟩,trivial,rfl⟩ (by show 0≤0; decide)) (en_eqM (r:=(.v (Value.slice none 0 0))) (ys:=[]) (by rfl) (by rfl) (en_retM (by kernel_rfl) (by kernel_rfl) rfl (.inr rfl)))
theorem cza_17 (nI d q:Int) (y:Value) (P:PL) (b:Int) (hm:P.length≤24) (hb:0≤b∧b≤4294967295) (h0:(flt (mkB b) P.length).length=0) (i:Nat) (hi1:i≤P.length) (hi2:True) (v:BaseW) (eb:EB) (ec:EC) (hs:LN):Goes pg 24 czaK16 ((qO3_5 P b d i nI q y)) (BaseW.H (bw v 0 eb ec) hs) (Hd.StepC pg 24 0 (fun i:{i:Nat // i≤P.length∧True}=>⟨[(1,(.v (.int .u32 (b)))),(2,(.ptr 0 0)),qO3_15,(6,(.v (.int .i64 ((i.1:Nat):Int))))],[],1,[(qO3_10 P d nI q y)]⟩) (fun i:{i:Nat // i≤P.length∧True}=>P.length - i.1) czaK9 (bw v 0 eb ec) (OutM pg Try.f35 24 ((.v (.slice none 0 0))) [] (bw v 0 eb ec)) (⟨i,hi1,hi2⟩:{i:Nat // i≤P.length∧True})):=by
 rcases bE (ltI ((i:Nat):Int) ((P.length:Nat):Int)) with hqcza18_1 | hqcza18_1
 ·skip
  have ghqcza18_1:=lT hqcza18_1
  rcases bE (IntKind.u32.wrap (((BitVec.ofInt IntKind.u32.bits (b.fdiv (2 ^ min (((i:Nat):Int)).toNat IntKind.u32.bits)) &&& BitVec.ofInt IntKind.u32.bits 1).toNat:Nat):Int) == 1) with hqcza18_2 | hqcza18_2
  ·skip
   have hs:mkB b i=true:=hqcza18_2
   exfalso
   have h9:=flt_lenT hs rfl
   have h8:=flt_mono (mkB b) (show i + 1≤P.length by omega)
   omega
  ·skip
   have hs:mkB b i=false:=hqcza18_2
   exact gL isN_e (gT cm (kN) 200 (T':=(qO3_4 P b d i nI q y)) (e:=.normal) (ps:=[ltI ((i:Nat):Int) ((P.length:Nat):Int)=true,(IntKind.u32.wrap (((BitVec.ofInt IntKind.u32.bits (b.fdiv (2 ^ min (((i:Nat):Int)).toNat IntKind.u32.bits)) &&& BitVec.ofInt IntKind.u32.bits 1).toNat:Nat):Int) == 1)=false,inR .i64 (((i:Nat):Int) + 1)]) [.go,.go,.go,.go,.go,.b true,.go,.go,.go,.go,.go,.b false,.go,.go,.go] (by kernel_rfl) (by kernel_rfl) ⟨hqcza18_1,hqcza18_2,(iRO3 (by omega) (by omega)),trivial⟩ rfl) (eO (⟨i + 1,by omega,trivial⟩) (by show P.length - (i + 1) < P.length - i; omega) rfl)
 ·skip
  have ghqcza18_1:=lF hqcza18_1
  obtain rfl:i=P.length:=by omega
  exact gL isX_e (gT cm (kN) 200 (T':=⟨[qO3_15],[],1,[]⟩) (e:=.exit 0) (ps:=[ltI ((P.length:Nat):Int) ((P.length:Nat):Int)=false]) [.go,.go,.go,.go,.go,.b false] (by kernel_rfl) (by kernel_rfl) ⟨hqcza18_1,trivial⟩ rfl) (Hd.en_sx (cza_19 nI d q y P b hm hb h0 hi2  hqcza18_1 v eb ec hs))
theorem cza_15 (nI d q:Int) (y:Value) (P:PL) (b:Int) (hm:P.length≤24) (hb:0≤b∧b≤4294967295) (h0:(flt (mkB b) P.length).length=0) (v:BaseW) (eb:EB) (ec:EC) (hs:LN):Goes pg 24 czaK12 ((qO3_6 P b d nI q y)) (BaseW.H (bw v 0 eb ec) hs) (Hd.AfterN pg 24 czaK9 (bw v 0 eb ec) (OutM pg Try.f35 24 ((.v (.slice none 0 0))) [] (bw v 0 eb ec))):=by
 exact Hd.goes_loopA (id:=0) (by kernel_rfl) (by kernel_rfl) (fun i:{i:Nat // i≤P.length∧True}=>⟨[(1,(.v (.int .u32 (b)))),(2,(.ptr 0 0)),qO3_15,(6,(.v (.int .i64 ((i.1:Nat):Int))))],[],1,[(qO3_10 P d nI q y)]⟩) (fun i:{i:Nat // i≤P.length∧True}=>P.length - i.1) (fun ix_ hs=>cza_17 nI d q y P b hm hb h0 ix_.1 ix_.2.1 ix_.2.2 v eb ec hs) ⟨0,Nat.zero_le _,trivial⟩ hs
theorem cza_14 (nI d q:Int) (y:Value) (P:PL) (b:Int) (hm:P.length≤24) (hb:0≤b∧b≤4294967295) (h0:(flt (mkB b) P.length).length=0) (v:BaseW) (eb:EB) (ec:EC) (hs:LN):Goes pg 24 czaK12 ((qO3_6 P b d nI q y)) (BaseW.H (bw v 0 eb ec) hs) (Hd.AfterN pg 24 czaK9 (bw v 0 eb ec) (OutM pg Try.f35 24 ((.v (.slice none 0 0))) [] (bw v 0 eb ec))):=by
 exact cza_15 nI d q y P b hm hb h0 v eb ec hs
theorem cza_11 (nI d q:Int) (y:Value) (P:PL) (b:Int) (hm:P.length≤24) (hb:0≤b∧b≤4294967295) (h0:(flt (mkB b) P.length).length=0) (v:BaseW) (eb:EB) (ec:EC) (hs:LN):Goes pg 24 czaK10 ((qO3_7 P b d nI q y)) (BaseW.H (bw v 0 eb ec) hs) (Hd.AfterN pg 24 czaK9 (bw v 0 eb ec) (OutM pg Try.f35 24 ((.v (.slice none 0 0))) [] (bw v 0 eb ec))):=by
 refine gS (by kernel_rfl) ?_
 exact gL isN_e (gT cm (kN) 200 (T':=(qO3_6 P b d nI q y)) (e:=.normal) (ps:=[]) [.go] (by kernel_rfl) (by kernel_rfl) trivial rfl) (Hd.en_n (cza_14 nI d q y P b hm hb h0 v eb ec hs))
theorem cza_8 (nI d q:Int) (y:Value) (P:PL) (b:Int) (hm:P.length≤24) (hb:0≤b∧b≤4294967295) (h0:(flt (mkB b) P.length).length=0) (v:BaseW) (eb:EB) (ec:EC) (hs:LN):Goes pg 24 czaK6 ((qO3_7 P b d nI q y)) (BaseW.H (bw v 0 eb ec) hs) (OutM pg Try.f35 24 ((.v (.slice none 0 0))) [] (bw v 0 eb ec)):=by
 exact gS (by kernel_rfl) (cza_11 nI d q y P b hm hb h0 v eb ec hs)
theorem cza_5 (nI d q:Int) (y:Value) (P:PL) (b:Int) (hm:P.length≤24) (hb:0≤b∧b≤4294967295) (h0:(flt (mkB b) P.length).length=0) (v:BaseW) (eb:EB) (ec:EC) (hs:LN):Goes pg 24 czaK3 ((qO3_8 P b d nI q y)) (BaseW.H (bw v 0 eb ec) hs) (OutM pg Try.f35 24 ((.v (.slice none 0 0))) [] (bw v 0 eb ec)):=by
 refine gS (by kernel_rfl) ?_
 exact gL isN_e (gT cm (kN) 200 (T':=(qO3_7 P b d nI q y)) (e:=.normal) (ps:=[]) [.go] (by kernel_rfl) (by kernel_rfl) trivial rfl) (Hd.en_n (cza_8 nI d q y P b hm hb h0 v eb ec hs))
theorem cza_2 (nI d q:Int) (y:Value) (P:PL) (b:Int) (hm:P.length≤24) (hb:0≤b∧b≤4294967295) (h0:(flt (mkB b) P.length).length=0) (v:BaseW) (eb:EB) (ec:EC) (hs:LN):Goes pg 24 czaK1 ((qO3_9 P b d nI q y)) (BaseW.H (bw v 0 eb ec) hs) (OutM pg Try.f35 24 ((.v (.slice none 0 0))) [] (bw v 0 eb ec)):=by
 refine gS (by kernel_rfl) ?_
 exact gL isN_e (gT cm (kN) 200 (T':=(qO3_8 P b d nI q y)) (e:=.normal) (ps:=[]) [.go,.go] (by kernel_rfl) (by kernel_rfl) trivial rfl) (Hd.en_n (cza_5 nI d q y P b hm hb h0 v eb ec hs))
theorem choose_a (nI d q:Int) (y:Value) (P:PL) (b:Int) (hm:P.length≤24) (hb:0≤b∧b≤4294967295) (h0:(flt (mkB b) P.length).length=0):GivesM pg 35 [(.agg [.v (.int .i64 nI),.v (.int .i64 d),.v (.int .i64 q),.xl y P.length 3 (cT P)]),(.v (.int .u32 b))] [] ((.v (.slice none 0 0))) [] :=
 givesM_parts 24 (by kernel_rfl) Try.func35 (by kernel_rfl) (by kernel_rfl) (by kernel_rfl) (fun v eb ec=>goes_less (by kernel_rfl) (by kernel_rfl) (by kernel_rfl) (by kernel_rfl) (cza_2 nI d q y P b hm hb h0 v eb ec []))
def czbK1:Code:=bodyC Try.f35
def czbK3:Code:=tlC czbK1
def czbK6:Code:=tlC czbK3
def czbK9:Code:=tlC czbK6
def czbK10:Code:=(hdC czbK6)
def czbK12:Code:=tlC czbK10
def czbK17:Code:=loopC czbK12
theorem czb_18 (nI d q:Int) (y:Value) (P:PL) (b:Int) (hm:P.length≤24) (hb:0≤b∧b≤4294967295) (h0:0 < (flt (mkB b) P.length).length) (i:Nat) (hi1:i≤P.length) (hi2:True) (hc0:(flt (mkB b) i).length=0) (v:BaseW) (eb:EB) (ec:EC) (hs:LN):Goes pg 24 czbK17 ((qO3_5 P b d i nI q y)) (BaseW.H (bw v 0 eb ec) hs) (Hd.StepC pg 24 0 (fun i:{i:Nat // i≤P.length∧True}=>(Ev.fam0 (⟨[(1,(.v (.int .u32 (b)))),(2,(.ptr 0 0)),qO3_15,(6,(.v (.int .i64 ((i.1:Nat):Int))))],[],1,[(qO3_10 P d nI q y)]⟩:Ev.Lit) (fun k=>(⟨[(1,(.v (.int .u32 (b)))),(2,(.ptr 0 0)),(5,(.slu 1 0 (k + 1) 0)),(6,(.v (.int .i64 ((i.1:Nat):Int))))],[],2,[(qO3_10 P d nI q y),(1,(.row (cI (flt (mkB b) i.1)) 3 1))]⟩:Ev.Lit)) (flt (mkB b) i.1).length)) (fun i:{i:Nat // i≤P.length∧True}=>P.length - i.1) czbK9 (bw v 0 eb ec) (OutM pg Try.f35 24 ((.slu 0 0 (flt (mkB b) P.length).length 0)) [(qO3_14 P b)] (bw v 0 eb ec)) (⟨i,hi1,hi2⟩:{i:Nat // i≤P.length∧True})):=by
 rcases bE (ltI ((i:Nat):Int) ((P.length:Nat):Int)) with hqczb19_1 | hqczb19_1
 ·skip
  have ghqczb19_1:=lT hqczb19_1
  rcases bE (IntKind.u32.wrap (((BitVec.ofInt IntKind.u32.bits (b.fdiv (2 ^ min (((i:Nat):Int)).toNat IntKind.u32.bits)) &&& BitVec.ofInt IntKind.u32.bits 1).toNat:Nat):Int) == 1) with hqczb19_2 | hqczb19_2
  ·skip
   have hs:mkB b i=true:=hqczb19_2
   exact gL isN_e (gC cm (kN) 200 (T':=(qO3_3 P b d i nI q y)) (e:=.normal) (m:=3) (ps:=[ltI ((i:Nat):Int) ((P.length:Nat):Int)=true,(IntKind.u32.wrap (((BitVec.ofInt IntKind.u32.bits (b.fdiv (2 ^ min (((i:Nat):Int)).toNat IntKind.u32.bits)) &&& BitVec.ofInt IntKind.u32.bits 1).toNat:Nat):Int) == 1)=true,inR .i64 (((i:Nat):Int) + 1)]) [.go,.go,.go,.go,.go,.b true,.go,.go,.go,.go,.go,.b true,.go,.go,.go,.go,.go,.go,.go,.go] [0,2] [(.v (.int .u32 (b))),(.ptr 0 0),(.slu 2 0 1 0),(.v (.int .i64 (((i:Nat):Int) + 1)))] [(qO3_11 P d nI q y),(.row [(.v (.int .i64 (((i:Nat):Int))))] 3 1)] (by kernel_rfl) (by kernel_rfl) ⟨hqczb19_1,hqczb19_2,(iRO3 (by omega) (by omega)),trivial⟩ rfl rfl (by decide) rfl ⟨nr_v _,nr_ptr rfl,nr_slu rfl,nr_int (show ((((i:Nat):Int) + 1):Int)=(((i + 1):Nat):Int) from by omega),trivial⟩ ⟨⟨by show 0 < 2; decide,nrb_cells (nrl_cons (nr_v _) (nrl_cons (nr_v _) (nrl_cons (nr_v _) (nrl_cons (nr_xl (nrl_plain (cT_plain P))) (nrl_nil)))))⟩,⟨by show 1 < 2; decide,nrb_row (nrl_eq (show ((cI (flt (mkB b) (i + 1))):List AV)=[(.v (.int .i64 (((i:Nat):Int))))] from by (rw [flt_rowT hs,flt_nil hc0]; rfl)) (cI_plain _))⟩,trivial⟩) (eO ⟨i + 1,by omega,trivial⟩ (by show P.length - (i + 1) < P.length - i; omega) (show ((qO3_3 P b d i nI q y):Ev.Lit)=(Ev.fam0 ((qO3_4 P b d i nI q y):Ev.Lit) (fun k=>((qO3_2 P b d i k nI q y):Ev.Lit)) (flt (mkB b) (i + 1)).length) from congrArg (Ev.fam0 ((qO3_4 P b d i nI q y):Ev.Lit) (fun k=>((qO3_2 P b d i k nI q y):Ev.Lit))) (show (0 + 1:Nat)=(flt (mkB b) (i + 1)).length from (show (flt (mkB b) (i + 1)).length=0 + 1 from by exact flt_lenT hs hc0).symm)))
  ·skip
   have hs:mkB b i=false:=hqczb19_2
   exact gL isN_e (gC cm (kN) 200 (T':=(qO3_4 P b d i nI q y)) (e:=.normal) (m:=1) (ps:=[ltI ((i:Nat):Int) ((P.length:Nat):Int)=true,(IntKind.u32.wrap (((BitVec.ofInt IntKind.u32.bits (b.fdiv (2 ^ min (((i:Nat):Int)).toNat IntKind.u32.bits)) &&& BitVec.ofInt IntKind.u32.bits 1).toNat:Nat):Int) == 1)=false,inR .i64 (((i:Nat):Int) + 1)]) [.go,.go,.go,.go,.go,.b true,.go,.go,.go,.go,.go,.b false,.go,.go,.go] [0] [(.v (.int .u32 (b))),(.ptr 0 0),(.v (Value.slice none 0 0)),(.v (.int .i64 (((i:Nat):Int) + 1)))] [(qO3_11 P d nI q y)] (by kernel_rfl) (by kernel_rfl) ⟨hqczb19_1,hqczb19_2,(iRO3 (by omega) (by omega)),trivial⟩ rfl rfl (by decide) rfl ⟨nr_v _,nr_ptr rfl,nr_v _,nr_int (show ((((i:Nat):Int) + 1):Int)=(((i + 1):Nat):Int) from by omega),trivial⟩ ⟨⟨by show 0 < 1; decide,nrb_cells (nrl_cons (nr_v _) (nrl_cons (nr_v _) (nrl_cons (nr_v _) (nrl_cons (nr_xl (nrl_plain (cT_plain P))) (nrl_nil)))))⟩,trivial⟩) (eO ⟨i + 1,by omega,trivial⟩ (by show P.length - (i + 1) < P.length - i; omega) (show ((qO3_4 P b d i nI q y):Ev.Lit)=(Ev.fam0 ((qO3_4 P b d i nI q y):Ev.Lit) (fun k=>((qO3_2 P b d i k nI q y):Ev.Lit)) (flt (mkB b) (i + 1)).length) from congrArg (Ev.fam0 ((qO3_4 P b d i nI q y):Ev.Lit) (fun k=>((qO3_2 P b d i k nI q y):Ev.Lit))) (show (0:Nat)=(flt (mkB b) (i + 1)).length from (show (flt (mkB b) (i + 1)).length=0 from by exact flt_lenF hs hc0).symm)))
 ·skip
  have ghqczb19_1:=lF hqczb19_1
  exfalso
  have e:i=P.length:=by omega
  rw [e] at hc0
  omega
theorem czb_22 (nI d q:Int) (y:Value) (P:PL) (b:Int) (hm:P.length≤24) (hb:0≤b∧b≤4294967295) (h0:0 < (flt (mkB b) P.length).length) (h0b:True) (k:Nat) (hc0:(flt (mkB b) (P.length)).length=k + 1) (hqczb21_1:(ltI ((P.length:Nat):Int) ((P.length:Nat):Int))=false) (v:BaseW) (eb:EB) (ec:EC) (hs:LN):Goes pg 24 czbK9 (⟨[(5,(.slu 1 0 (k + 1) 0))],[],2,[(1,(.row (cI (flt (mkB b) (P.length))) 3 1))]⟩) (BaseW.H (bw v 0 eb ec) hs) (OutM pg Try.f35 24 ((.slu 0 0 (flt (mkB b) P.length).length 0)) [(qO3_14 P b)] (bw v 0 eb ec)):=by
 have ghqczb21_1:=lF hqczb21_1
 exact gL isR_e (gC cm (kN) 200 (T':=⟨[(4,(.slu 0 0 (k + 1) 0))],[],1,[(0,(qO3_14 P b))]⟩) (e:=.ret) (m:=2) (ps:=[]) [.go,.go] [1] [(.slu 1 0 (k + 1) 0)] [(qO3_14 P b)] (by kernel_rfl) (by kernel_rfl) trivial rfl rfl (by decide) rfl ⟨nr_slu rfl,trivial⟩ ⟨⟨by show 0 < 1; decide,nrb_row (nrl_plain (cI_plain _))⟩,trivial⟩) (en_eqM (r:=(.slu 0 0 (k + 1) 0)) (ys:=[(qO3_14 P b)]) (by rw [hc0]) (by rfl) (en_retM (by kernel_rfl) (by kernel_rfl) rfl (.inr rfl)))
theorem czb_20 (nI d q:Int) (y:Value) (P:PL) (b:Int) (hm:P.length≤24) (hb:0≤b∧b≤4294967295) (h0:0 < (flt (mkB b) P.length).length) (i k:Nat) (hi1:i≤P.length) (hi2:True) (hc0:(flt (mkB b) i).length=k + 1) (v:BaseW) (eb:EB) (ec:EC) (hs:LN):Goes pg 24 czbK17 (⟨[(1,(.v (.int .u32 (b)))),(2,(.ptr 0 0)),(5,(.slu 1 0 (k + 1) 0)),(6,(.v (.int .i64 ((i:Nat):Int))))],[],2,[(qO3_10 P d nI q y),(1,(.row (cI (flt (mkB b) i)) 3 1))]⟩) (BaseW.H (bw v 0 eb ec) hs) (Hd.StepC pg 24 0 (fun i:{i:Nat // i≤P.length∧True}=>(Ev.fam0 (⟨[(1,(.v (.int .u32 (b)))),(2,(.ptr 0 0)),qO3_15,(6,(.v (.int .i64 ((i.1:Nat):Int))))],[],1,[(qO3_10 P d nI q y)]⟩:Ev.Lit) (fun k=>(⟨[(1,(.v (.int .u32 (b)))),(2,(.ptr 0 0)),(5,(.slu 1 0 (k + 1) 0)),(6,(.v (.int .i64 ((i.1:Nat):Int))))],[],2,[(qO3_10 P d nI q y),(1,(.row (cI (flt (mkB b) i.1)) 3 1))]⟩:Ev.Lit)) (flt (mkB b) i.1).length)) (fun i:{i:Nat // i≤P.length∧True}=>P.length - i.1) czbK9 (bw v 0 eb ec) (OutM pg Try.f35 24 ((.slu 0 0 (flt (mkB b) P.length).length 0)) [(qO3_14 P b)] (bw v 0 eb ec)) (⟨i,hi1,hi2⟩:{i:Nat // i≤P.length∧True})):=by
 rcases bE (ltI ((i:Nat):Int) ((P.length:Nat):Int)) with hqczb21_1 | hqczb21_1
 ·skip
  have ghqczb21_1:=lT hqczb21_1
  rcases bE (IntKind.u32.wrap (((BitVec.ofInt IntKind.u32.bits (b.fdiv (2 ^ min (((i:Nat):Int)).toNat IntKind.u32.bits)) &&& BitVec.ofInt IntKind.u32.bits 1).toNat:Nat):Int) == 1) with hqczb21_2 | hqczb21_2
  ·skip
   have hs:mkB b i=true:=hqczb21_2
   exact gL isN_e (gC cm (kN) 200 (T':=(qO3_1 P b d i k nI q y)) (e:=.normal) (m:=4) (ps:=[ltI ((i:Nat):Int) ((P.length:Nat):Int)=true,(IntKind.u32.wrap (((BitVec.ofInt IntKind.u32.bits (b.fdiv (2 ^ min (((i:Nat):Int)).toNat IntKind.u32.bits)) &&& BitVec.ofInt IntKind.u32.bits 1).toNat:Nat):Int) == 1)=true,((cI (flt (mkB b) i)):List AV).length=(k + 1) * 1,k + 1 + 1≤1000000,inR .i64 (((i:Nat):Int) + 1)]) [.go,.go,.go,.go,.go,.b true,.go,.go,.go,.go,.go,.b true,.go,.go,.go,.sym,.go,.go,.go,.go] [0,3] [(.v (.int .u32 (b))),(.ptr 0 0),(.slu 3 0 (k + 1 + 1) 0),(.v (.int .i64 (((i:Nat):Int) + 1)))] [(qO3_11 P d nI q y),(.row ((cI (flt (mkB b) i)) ++ [(.v (.int .i64 (((i:Nat):Int))))]) 3 1)] (by kernel_rfl) (by kernel_rfl) ⟨hqczb21_1,hqczb21_2,(by show (cI _).length=_; rw [cI_len,hc0]; omega),(by have h9:=flt_le (mkB b) i; omega),(iRO3 (by omega) (by omega)),trivial⟩ rfl rfl (by decide) rfl ⟨nr_v _,nr_ptr rfl,nr_slu rfl,nr_int (show ((((i:Nat):Int) + 1):Int)=(((i + 1):Nat):Int) from by omega),trivial⟩ ⟨⟨by show 0 < 2; decide,nrb_cells (nrl_cons (nr_v _) (nrl_cons (nr_v _) (nrl_cons (nr_v _) (nrl_cons (nr_xl (nrl_plain (cT_plain P))) (nrl_nil)))))⟩,⟨by show 1 < 2; decide,nrb_row (nrl_eq (show ((cI (flt (mkB b) (i + 1))):List AV)=((cI (flt (mkB b) i)) ++ [(.v (.int .i64 (((i:Nat):Int))))]) from by first | exact flt_rowT hs | (rw [takeF hc0]; exact flt_rowT hs)) (cI_plain _))⟩,trivial⟩) (eO ⟨i + 1,by omega,trivial⟩ (by show P.length - (i + 1) < P.length - i; omega) (show ((qO3_1 P b d i k nI q y):Ev.Lit)=(Ev.fam0 ((qO3_4 P b d i nI q y):Ev.Lit) (fun k=>((qO3_2 P b d i k nI q y):Ev.Lit)) (flt (mkB b) (i + 1)).length) from congrArg (Ev.fam0 ((qO3_4 P b d i nI q y):Ev.Lit) (fun k=>((qO3_2 P b d i k nI q y):Ev.Lit))) (show (k + 1 + 1:Nat)=(flt (mkB b) (i + 1)).length from (show (flt (mkB b) (i + 1)).length=k + 1 + 1 from by exact flt_lenT hs hc0).symm)))
  ·skip
   have hs:mkB b i=false:=hqczb21_2
   exact gL isN_e (gC cm (kN) 200 (T':=(qO3_2 P b d i k nI q y)) (e:=.normal) (m:=2) (ps:=[ltI ((i:Nat):Int) ((P.length:Nat):Int)=true,(IntKind.u32.wrap (((BitVec.ofInt IntKind.u32.bits (b.fdiv (2 ^ min (((i:Nat):Int)).toNat IntKind.u32.bits)) &&& BitVec.ofInt IntKind.u32.bits 1).toNat:Nat):Int) == 1)=false,inR .i64 (((i:Nat):Int) + 1)]) [.go,.go,.go,.go,.go,.b true,.go,.go,.go,.go,.go,.b false,.go,.go,.go] [0,1] [(.v (.int .u32 (b))),(.ptr 0 0),(.slu 1 0 (k + 1) 0),(.v (.int .i64 (((i:Nat):Int) + 1)))] [(qO3_11 P d nI q y),(.row (cI (flt (mkB b) i)) 3 1)] (by kernel_rfl) (by kernel_rfl) ⟨hqczb21_1,hqczb21_2,(iRO3 (by omega) (by omega)),trivial⟩ rfl rfl (by decide) rfl ⟨nr_v _,nr_ptr rfl,nr_slu rfl,nr_int (show ((((i:Nat):Int) + 1):Int)=(((i + 1):Nat):Int) from by omega),trivial⟩ ⟨⟨by show 0 < 2; decide,nrb_cells (nrl_cons (nr_v _) (nrl_cons (nr_v _) (nrl_cons (nr_v _) (nrl_cons (nr_xl (nrl_plain (cT_plain P))) (nrl_nil)))))⟩,⟨by show 1 < 2; decide,nrb_row (nrl_eq (show ((cI (flt (mkB b) (i + 1))):List AV)=(cI (flt (mkB b) i)) from by rw [flt_rowF hs]) (cI_plain _))⟩,trivial⟩) (eO ⟨i + 1,by omega,trivial⟩ (by show P.length - (i + 1) < P.length - i; omega) (show ((qO3_2 P b d i k nI q y):Ev.Lit)=(Ev.fam0 ((qO3_4 P b d i nI q y):Ev.Lit) (fun k=>((qO3_2 P b d i k nI q y):Ev.Lit)) (flt (mkB b) (i + 1)).length) from congrArg (Ev.fam0 ((qO3_4 P b d i nI q y):Ev.Lit) (fun k=>((qO3_2 P b d i k nI q y):Ev.Lit))) (show (k + 1:Nat)=(flt (mkB b) (i + 1)).length from (show (flt (mkB b) (i + 1)).length=k + 1 from by exact flt_lenF hs hc0).symm)))
 ·skip
  have ghqczb21_1:=lF hqczb21_1
  obtain rfl:i=P.length:=by omega
  exact gL isX_e (gT cm (kN) 200 (T':=⟨[(5,(.slu 1 0 (k + 1) 0))],[],2,[(1,(.row (cI (flt (mkB b) (P.length))) 3 1))]⟩) (e:=.exit 0) (ps:=[ltI ((P.length:Nat):Int) ((P.length:Nat):Int)=false]) [.go,.go,.go,.go,.go,.b false] (by kernel_rfl) (by kernel_rfl) ⟨hqczb21_1,trivial⟩ rfl) (Hd.en_sx (czb_22 nI d q y P b hm hb h0 hi2 k hc0 hqczb21_1 v eb ec hs))
theorem czb_16 (nI d q:Int) (y:Value) (P:PL) (b:Int) (hm:P.length≤24) (hb:0≤b∧b≤4294967295) (h0:0 < (flt (mkB b) P.length).length) (v:BaseW) (eb:EB) (ec:EC) (hs:LN):Goes pg 24 czbK12 ((qO3_6 P b d nI q y)) (BaseW.H (bw v 0 eb ec) hs) (Hd.AfterN pg 24 czbK9 (bw v 0 eb ec) (OutM pg Try.f35 24 ((.slu 0 0 (flt (mkB b) P.length).length 0)) [(qO3_14 P b)] (bw v 0 eb ec))):=by
 exact Hd.goes_loopA (id:=0) (by kernel_rfl) (by kernel_rfl) (fun i:{i:Nat // i≤P.length∧True}=>(Ev.fam0 (⟨[(1,(.v (.int .u32 (b)))),(2,(.ptr 0 0)),qO3_15,(6,(.v (.int .i64 ((i.1:Nat):Int))))],[],1,[(qO3_10 P d nI q y)]⟩:Ev.Lit) (fun k=>(⟨[(1,(.v (.int .u32 (b)))),(2,(.ptr 0 0)),(5,(.slu 1 0 (k + 1) 0)),(6,(.v (.int .i64 ((i.1:Nat):Int))))],[],2,[(qO3_10 P d nI q y),(1,(.row (cI (flt (mkB b) i.1)) 3 1))]⟩:Ev.Lit)) (flt (mkB b) i.1).length)) (fun i:{i:Nat // i≤P.length∧True}=>P.length - i.1) (fun ix_ hs=>match ix_ with | ⟨i,hi1,hi2⟩=>fam0_goesK (P:=(fun t_=>Goes pg 24 czbK17 t_ (BaseW.H (bw v 0 eb ec) hs) (Hd.StepC pg 24 0 (fun i:{i:Nat // i≤P.length∧True}=>(Ev.fam0 (⟨[(1,(.v (.int .u32 (b)))),(2,(.ptr 0 0)),qO3_15,(6,(.v (.int .i64 ((i.1:Nat):Int))))],[],1,[(qO3_10 P d nI q y)]⟩:Ev.Lit) (fun k=>(⟨[(1,(.v (.int .u32 (b)))),(2,(.ptr 0 0)),(5,(.slu 1 0 (k + 1) 0)),(6,(.v (.int .i64 ((i.1:Nat):Int))))],[],2,[(qO3_10 P d nI q y),(1,(.row (cI (flt (mkB b) i.1)) 3 1))]⟩:Ev.Lit)) (flt (mkB b) i.1).length)) (fun i:{i:Nat // i≤P.length∧True}=>P.length - i.1) czbK9 (bw v 0 eb ec) (OutM pg Try.f35 24 ((.slu 0 0 (flt (mkB b) P.length).length 0)) [(qO3_14 P b)] (bw v 0 eb ec)) (⟨i,hi1,hi2⟩:{i:Nat // i≤P.length∧True})))) (fun hc0=>czb_18 nI d q y P b hm hb h0 i hi1 hi2 hc0 v eb ec hs) (fun k hc0=>czb_20 nI d q y P b hm hb h0 i k hi1 hi2 hc0 v eb ec hs)) ⟨0,Nat.zero_le _,trivial⟩ hs
theorem czb_14 (nI d q:Int) (y:Value) (P:PL) (b:Int) (hm:P.length≤24) (hb:0≤b∧b≤4294967295) (h0:0 < (flt (mkB b) P.length).length) (v:BaseW) (eb:EB) (ec:EC) (hs:LN):Goes pg 24 czbK12 ((qO3_6 P b d nI q y)) (BaseW.H (bw v 0 eb ec) hs) (Hd.AfterN pg 24 czbK9 (bw v 0 eb ec) (OutM pg Try.f35 24 ((.slu 0 0 (flt (mkB b) P.length).length 0)) [(qO3_14 P b)] (bw v 0 eb ec))):=by
 exact czb_16 nI d q y P b hm hb h0 v eb ec hs
theorem czb_11 (nI d q:Int) (y:Value) (P:PL) (b:Int) (hm:P.length≤24) (hb:0≤b∧b≤4294967295) (h0:0 < (flt (mkB b) P.length).length) (v:BaseW) (eb:EB) (ec:EC) (hs:LN):Goes pg 24 czbK10 ((qO3_7 P b d nI q y)) (BaseW.H (bw v 0 eb ec) hs) (Hd.AfterN pg 24 czbK9 (bw v 0 eb ec) (OutM pg Try.f35 24 ((.slu 0 0 (flt (mkB b) P.length).length 0)) [(qO3_14 P b)] (bw v 0 eb ec))):=by
 refine gS (by kernel_rfl) ?_
 exact gL isN_e (gT cm (kN) 200 (T':=(qO3_6 P b d nI q y)) (e:=.normal) (ps:=[]) [.go] (by kernel_rfl) (by kernel_rfl) trivial rfl) (Hd.en_n (czb_14 nI d q y P b hm hb h0 v eb ec hs))
theorem czb_8 (nI d q:Int) (y:Value) (P:PL) (b:Int) (hm:P.length≤24) (hb:0≤b∧b≤4294967295) (h0:0 < (flt (mkB b) P.length).length) (v:BaseW) (eb:EB) (ec:EC) (hs:LN):Goes pg 24 czbK6 ((qO3_7 P b d nI q y)) (BaseW.H (bw v 0 eb ec) hs) (OutM pg Try.f35 24 ((.slu 0 0 (flt (mkB b) P.length).length 0)) [(qO3_14 P b)] (bw v 0 eb ec)):=by
 exact gS (by kernel_rfl) (czb_11 nI d q y P b hm hb h0 v eb ec hs)
theorem czb_5 (nI d q:Int) (y:Value) (P:PL) (b:Int) (hm:P.length≤24) (hb:0≤b∧b≤4294967295) (h0:0 < (flt (mkB b) P.length).length) (v:BaseW) (eb:EB) (ec:EC) (hs:LN):Goes pg 24 czbK3 ((qO3_8 P b d nI q y)) (BaseW.H (bw v 0 eb ec) hs) (OutM pg Try.f35 24 ((.slu 0 0 (flt (mkB b) P.length).length 0)) [(qO3_14 P b)] (bw v 0 eb ec)):=by
 refine gS (by kernel_rfl) ?_
 exact gL isN_e (gT cm (kN) 200 (T':=(qO3_7 P b d nI q y)) (e:=.normal) (ps:=[]) [.go] (by kernel_rfl) (by kernel_rfl) trivial rfl) (Hd.en_n (czb_8 nI d q y P b hm hb h0 v eb ec hs))
theorem czb_2 (nI d q:Int) (y:Value) (P:PL) (b:Int) (hm:P.length≤24) (hb:0≤b∧b≤4294967295) (h0:0 < (flt (mkB b) P.length).length) (v:BaseW) (eb:EB) (ec:EC) (hs:LN):Goes pg 24 czbK1 ((qO3_9 P b d nI q y)) (BaseW.H (bw v 0 eb ec) hs) (OutM pg Try.f35 24 ((.slu 0 0 (flt (mkB b) P.length).length 0)) [(qO3_14 P b)] (bw v 0 eb ec)):=by
 refine gS (by kernel_rfl) ?_
 exact gL isN_e (gT cm (kN) 200 (T':=(qO3_8 P b d nI q y)) (e:=.normal) (ps:=[]) [.go,.go] (by kernel_rfl) (by kernel_rfl) trivial rfl) (Hd.en_n (czb_5 nI d q y P b hm hb h0 v eb ec hs))
theorem choose_b (nI d q:Int) (y:Value) (P:PL) (b:Int) (hm:P.length≤24) (hb:0≤b∧b≤4294967295) (h0:0 < (flt (mkB b) P.length).length):GivesM pg 35 [(.agg [.v (.int .i64 nI),.v (.int .i64 d),.v (.int .i64 q),.xl y P.length 3 (cT P)]),(.v (.int .u32 b))] [] ((.slu 0 0 (flt (mkB b) P.length).length 0)) [(qO3_14 P b)] :=
 givesM_parts 24 (by kernel_rfl) Try.func35 (by kernel_rfl) (by kernel_rfl) (by kernel_rfl) (fun v eb ec=>goes_less (by kernel_rfl) (by kernel_rfl) (by kernel_rfl) (by kernel_rfl) (czb_2 nI d q y P b hm hb h0 v eb ec []))
end
end Go.Proofs.Ytnphldmnakbknaa
