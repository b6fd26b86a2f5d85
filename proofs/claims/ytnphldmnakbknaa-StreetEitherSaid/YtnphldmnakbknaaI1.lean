import Derived.Test.YtnphldmnakbknaaDa
import Derived.Test.YtnphldmnakbknaaDm
import Derived.Test.YtnphldmnakbknaaCa
import Derived.Test.YtnphldmnakbknaaCb
import Derived.Test.YtnphldmnakbknaaT4
import Derived.Test.YtnphldmnakbknaaSla
import Derived.Test.YtnphldmnakbknaaSlb
set_option maxHeartbeats 4000000
set_option linter.all false
/- What is known of dark places. -/
namespace Go.Proofs.Ytnphldmnakbknaa
open Go Ev
noncomputable section
section
variable (C : List Int) (P : PL) (d : Int) (n : Nat) (q : Int) (st : Nat → Bool) (y z : Value)
abbrev qI1_7:Nat×Ev.AB:=(0,(.cells [(.v (.int .i64 n)),(.v (.int .i64 (d))),(.v (.int .i64 (q))),(.xl (y) (P.length) 3 (cT P))] 24))
abbrev qI1_12:=(cI (tabL (litF (cT P) q (cI C) C.length) n))
abbrev qI1_9:Nat×Ev.AB:=(1,(.cells (qI1_12 C P n q) 3))
abbrev qI1_1:Ev.Lit:=⟨[(2,(.ptr 0 0)),(5,(.sl 1 0 (n) (n))),(6,(.v (.int .i64 (.ofNat 0))))],[],2,[(qI1_7 P d n q y),(qI1_9 C P n q)]⟩
abbrev qI1_2:Ev.Lit:=⟨[(2,(.ptr 0 0)),(5,(.sl 1 0 (n) (n)))],[],2,[(qI1_7 P d n q y),(qI1_9 C P n q)]⟩
abbrev qI1_11:=(flt (stM n d q y P st) P.length)
abbrev qI1_10:=(cI (qI1_11 P d n q st y))
abbrev qI1_5:=(eqI ((drV (cT P) q d (qI1_10 P d n q st y) (qI1_11 P d n q st y).length n:Nat):Int) n)
abbrev qI1_3:Ev.Lit:=⟨[(2,(.v (.bool (qI1_5 P d n q st y))))],[],0,[]⟩
abbrev qI1_4:Ev.Lit:=⟨[(1,(.xl (z) (C.length) 1 (cI C))),(2,(.ptr 0 0))],[],1,[(qI1_7 P d n q y)]⟩
abbrev qI1_6:Ev.Lit:=⟨[(0,(.agg (rdT [.v (.int .i64 n),.v (.int .i64 d),.v (.int .i64 q),.xl y P.length 3 (cT P)] (st))))],[],0,[]⟩
abbrev qI1_8:=(drL (cT P) q d (qI1_10 P d n q st y) (qI1_11 P d n q st y).length n)
end
def dkSa:List AV→List AB→Option ((AV×List AB)×List Prop):=fun args xs =>
 match args with
 | [.agg l]=>match rdV l,xs with
  | some (n,d,q,y,m,c),[]=>some ((.tup [.v (.int .i64 0),.v (.slice none 0 0)],[]),[IsRd l,roE n d q c m=0,(flt (stnd l) m).length=0])
  | _,_=>none
 | _=>none
def dkOa:OrcH:=mOrc 52 dkSa
theorem known_dka:Known pg (clsO dkOa):=known_m (fun args xs r ys ps h hp=>by
 unfold dkSa at h
 split at h
 ·split at h
  ·rename_i n d q y m c e
   cases h
   obtain ⟨⟨n,d,q,y,P,st,rfl⟩,hE,h0,-⟩:=hp
   obtain ⟨rfl,rfl,rfl,rfl,rfl,rfl⟩:=rdV_eq e
   obtain ⟨k,rfl⟩:∃ k:Nat,n=((k:Nat):Int):=⟨n.toNat,by have h9:=(roE_zero hE).2.1.1; omega⟩
   exact ⟨fun x hx=>absurd hx List.not_mem_nil,fun x hx=>absurd hx List.not_mem_nil,dark_a k _ _ _ P st hE h0⟩
  ·cases h
 ·cases h)
def dkSn:List AV→List AB→Option ((AV×List AB)×List Prop):=fun args xs =>
 match args with
 | [.agg l]=>match rdV l,xs with
  | some (n,d,q,y,m,c),[]=>some ((.tup [.v (.int .i64 (((drV c q d (cI (flt (stnd l) m)) (flt (stnd l) m).length n.toNat):Nat):Int)),.v (.slice none 0 0)],[]),[IsRd l,roE n d q c m=0,0 < (flt (stnd l) m).length,(drL c q d (cI (flt (stnd l) m)) (flt (stnd l) m).length n.toNat).length=0])
  | _,_=>none
 | _=>none
def dkOn:OrcH:=mOrc 52 dkSn
theorem known_dkn:Known pg (clsO dkOn):=known_m (fun args xs r ys ps h hp=>by
 unfold dkSn at h
 split at h
 ·split at h
  ·rename_i n d q y m c e
   cases h
   obtain ⟨⟨n,d,q,y,P,st,rfl⟩,hE,h0,hl,-⟩:=hp
   obtain ⟨rfl,rfl,rfl,rfl,rfl,rfl⟩:=rdV_eq e
   obtain ⟨k,rfl⟩:∃ k:Nat,n=((k:Nat):Int):=⟨n.toNat,by have h9:=(roE_zero hE).2.1.1; omega⟩
   exact ⟨fun x hx=>absurd hx List.not_mem_nil,fun x hx=>absurd hx List.not_mem_nil,dark_n k _ _ _ P st hE h0 hl⟩
  ·cases h
 ·cases h)
def dkSr:List AV→List AB→Option ((AV×List AB)×List Prop):=fun args xs =>
 match args with
 | [.agg l]=>match rdV l,xs with
  | some (n,d,q,y,m,c),[]=>some ((.tup [.v (.int .i64 (((drV c q d (cI (flt (stnd l) m)) (flt (stnd l) m).length n.toNat):Nat):Int)),.slu 0 0 (drL c q d (cI (flt (stnd l) m)) (flt (stnd l) m).length n.toNat).length 0],[.row (cI (drL c q d (cI (flt (stnd l) m)) (flt (stnd l) m).length n.toNat)) 3 1]),[IsRd l,roE n d q c m=0,0 < (flt (stnd l) m).length,0 < (drL c q d (cI (flt (stnd l) m)) (flt (stnd l) m).length n.toNat).length])
  | _,_=>none
 | _=>none
def dkOr:OrcH:=mOrc 52 dkSr
theorem known_dkr:Known pg (clsO dkOr):=known_m (fun args xs r ys ps h hp=>by
 unfold dkSr at h
 split at h
 ·split at h
  ·rename_i n d q y m c e
   cases h
   obtain ⟨⟨n,d,q,y,P,st,rfl⟩,hE,h0,hl,-⟩:=hp
   obtain ⟨rfl,rfl,rfl,rfl,rfl,rfl⟩:=rdV_eq e
   obtain ⟨k,rfl⟩:∃ k:Nat,n=((k:Nat):Int):=⟨n.toNat,by have h9:=(roE_zero hE).2.1.1; omega⟩
   exact ⟨fun x hx=>absurd hx List.not_mem_nil,fun x hx=>by rcases List.mem_cons.1 hx with rfl | hx; exact freeB_row (fP (cI_plain _)); exact absurd hx List.not_mem_nil,dark_r k _ _ _ P st hE h0 hl⟩
  ·cases h
 ·cases h)
theorem fst_le_of {f:Nat→Bool} {i:Nat} (hf:f i=true):∀ {n:Nat},i < n→fstF f n≤i
 | n + 1,h=>by
  have h1:=fst_le f n
  by_cases e:i=n
  ·subst e
   simp only [fstF,hf,if_true]
   split <;> omega
  ·have ih:=fst_le_of hf (show i < n by omega)
   simp only [fstF]
   rw [if_pos (by omega)]
   exact ih
def hoB (c:List AV) (q d:Int) (xs:List AV) (k n:Nat):Bool:=eqI ((drV c q d xs k n:Nat):Int) n
section
variable {c xs : List AV} {q d : Int} {k n i : Nat}
theorem ho_yes (h:∀ j,j < n→d < litF c q xs k j):hoB c q d xs k n=true:=by
 unfold hoB
 rw [(dr_none h).1]
 exact eqI_self _
theorem ho_no (hi:i < n) (h:litF c q xs k i≤d):hoB c q d xs k n=false:=by
 unfold hoB
 have:drV c q d xs k n≤i:=fst_le_of (f:=dkB c q d xs k) (decide_eq_true (p:=litF c q xs k i≤d) h) hi
 rw [eqI_iff]
 exact decide_eq_false (by omega)
theorem ho_zero (hn:1≤n) (hd:0≤d):hoB c q d xs 0 n=false:=ho_no (i:=0) (by omega) (by show (0:Int)≤d; exact hd)
theorem ho_true (h:hoB c q d xs k n=true):∀ j,j < n→d < litF c q xs k j:=fun j hj=>by
 rcases Int.lt_or_le d (litF c q xs k j) with h1 | h1
 ·exact h1
 ·rw [ho_no hj h1] at h; cases h
end
def hoaK1:Code:=bodyC Try.f44
theorem hoa_2 (n:Nat) (d q:Int) (y:Value) (P:PL) (st:Nat→Bool) (hE:roE n d q (cT P) P.length=0) (h0:(qI1_11 P d n q st y).length=0) (v:BaseW) (eb:EB) (ec:EC) (hs:LN):Goes pg 15 hoaK1 ((qI1_6 P d n q st y)) (BaseW.H (bw v 0 eb ec) hs) (OutM pg Try.f44 15 ((.v (.bool (hoB (cT P) q d (qI1_10 P d n q st y) (qI1_11 P d n q st y).length n)))) [] (bw v 0 eb ec)):=by
 obtain ⟨hm,⟨ha1,ha2,ha3⟩,hp⟩:=roE_zero hE
 exact gL isR_e (gK cm (known_dka) 200 (T':=⟨[(2,(.v (.bool (eqI 0 n))))],[],0,[]⟩) (e:=.ret) (m:=1) (ps:=[FreeL (cT P),IsRd (rdT [.v (.int .i64 n),.v (.int .i64 d),.v (.int .i64 q),AV.xl y P.length 3 (cT P)] (st)),roE n d q (cT P) P.length=0,(qI1_11 P d n q st y).length=0]) [.go,.go,.go,.go,.go,.go,.go,.go,.go,.go,.go,.go,.go,.go] (by kernel_rfl) (by kernel_rfl) ⟨(fP (cT_plain P)),⟨_,_,_,_,P,st,rfl⟩,hE,h0,trivial⟩ rfl (by show 0≤1; decide) ⟨⟨nb_v _,trivial⟩,trivial,rfl⟩ (by show 0≤0; decide)) (en_eqM (r:=(.v (.bool (eqI 0 n)))) (ys:=[]) (by (rw [h0,ho_zero (by omega) (by omega)]; rw [show eqI 0 n=false from by rw [eqI_iff]; exact decide_eq_false (by omega)])) (by rfl) (en_retM (by kernel_rfl) (by kernel_rfl) rfl (.inr rfl)))
theorem holds_a (n:Nat) (d q:Int) (y:Value) (P:PL) (st:Nat→Bool) (hE:roE n d q (cT P) P.length=0) (h0:(qI1_11 P d n q st y).length=0):GivesM pg 44 [(.agg (rdT [.v (.int .i64 n),.v (.int .i64 d),.v (.int .i64 q),.xl y P.length 3 (cT P)] (st)))] [] ((.v (.bool (hoB (cT P) q d (qI1_10 P d n q st y) (qI1_11 P d n q st y).length n)))) [] :=
 givesM_parts 15 (by kernel_rfl) Try.func44 (by kernel_rfl) (by kernel_rfl) (by kernel_rfl) (fun v eb ec=>goes_less (by kernel_rfl) (by kernel_rfl) (by kernel_rfl) (by kernel_rfl) (hoa_2 n d q y P st hE h0 v eb ec []))
def honK1:Code:=bodyC Try.f44
theorem hon_2 (n:Nat) (d q:Int) (y:Value) (P:PL) (st:Nat→Bool) (hE:roE n d q (cT P) P.length=0) (h0:0 < (qI1_11 P d n q st y).length) (hl:(qI1_8 P d n q st y).length=0) (v:BaseW) (eb:EB) (ec:EC) (hs:LN):Goes pg 15 honK1 ((qI1_6 P d n q st y)) (BaseW.H (bw v 0 eb ec) hs) (OutM pg Try.f44 15 ((.v (.bool (hoB (cT P) q d (qI1_10 P d n q st y) (qI1_11 P d n q st y).length n)))) [] (bw v 0 eb ec)):=by
 obtain ⟨hm,⟨ha1,ha2,ha3⟩,hp⟩:=roE_zero hE
 exact gL isR_e (gK cm (known_dkn) 200 (T':=(qI1_3 P d n q st y)) (e:=.ret) (m:=1) (ps:=[FreeL (cT P),IsRd (rdT [.v (.int .i64 n),.v (.int .i64 d),.v (.int .i64 q),AV.xl y P.length 3 (cT P)] (st)),roE n d q (cT P) P.length=0,0 < (qI1_11 P d n q st y).length,(qI1_8 P d n q st y).length=0]) [.go,.go,.go,.go,.go,.go,.go,.go,.go,.go,.go,.go,.go,.go] (by kernel_rfl) (by kernel_rfl) ⟨(fP (cT_plain P)),⟨_,_,_,_,P,st,rfl⟩,hE,h0,hl,trivial⟩ rfl (by show 0≤1; decide) ⟨⟨nb_v _,trivial⟩,trivial,rfl⟩ (by show 0≤0; decide)) (en_eqM (r:=(.v (.bool (qI1_5 P d n q st y)))) (ys:=[]) (by rfl) (by rfl) (en_retM (by kernel_rfl) (by kernel_rfl) rfl (.inr rfl)))
theorem holds_n (n:Nat) (d q:Int) (y:Value) (P:PL) (st:Nat→Bool) (hE:roE n d q (cT P) P.length=0) (h0:0 < (qI1_11 P d n q st y).length) (hl:(qI1_8 P d n q st y).length=0):GivesM pg 44 [(.agg (rdT [.v (.int .i64 n),.v (.int .i64 d),.v (.int .i64 q),.xl y P.length 3 (cT P)] (st)))] [] ((.v (.bool (hoB (cT P) q d (qI1_10 P d n q st y) (qI1_11 P d n q st y).length n)))) [] :=
 givesM_parts 15 (by kernel_rfl) Try.func44 (by kernel_rfl) (by kernel_rfl) (by kernel_rfl) (fun v eb ec=>goes_less (by kernel_rfl) (by kernel_rfl) (by kernel_rfl) (by kernel_rfl) (hon_2 n d q y P st hE h0 hl v eb ec []))
def horK1:Code:=bodyC Try.f44
theorem hor_2 (n:Nat) (d q:Int) (y:Value) (P:PL) (st:Nat→Bool) (hE:roE n d q (cT P) P.length=0) (h0:0 < (qI1_11 P d n q st y).length) (hl:0 < (qI1_8 P d n q st y).length) (v:BaseW) (eb:EB) (ec:EC) (hs:LN):Goes pg 15 horK1 ((qI1_6 P d n q st y)) (BaseW.H (bw v 0 eb ec) hs) (OutM pg Try.f44 15 ((.v (.bool (hoB (cT P) q d (qI1_10 P d n q st y) (qI1_11 P d n q st y).length n)))) [] (bw v 0 eb ec)):=by
 obtain ⟨hm,⟨ha1,ha2,ha3⟩,hp⟩:=roE_zero hE
 exact gL isR_e (gK cm (known_dkr) 200 (T':=(qI1_3 P d n q st y)) (e:=.ret) (m:=2) (ps:=[FreeL (cT P),IsRd (rdT [.v (.int .i64 n),.v (.int .i64 d),.v (.int .i64 q),AV.xl y P.length 3 (cT P)] (st)),roE n d q (cT P) P.length=0,0 < (qI1_11 P d n q st y).length,0 < (qI1_8 P d n q st y).length]) [.go,.go,.go,.go,.go,.go,.go,.go,.go,.go,.go,.go,.go,.go] (by kernel_rfl) (by kernel_rfl) ⟨(fP (cT_plain P)),⟨_,_,_,_,P,st,rfl⟩,hE,h0,hl,trivial⟩ rfl (by show 0≤2; decide) ⟨⟨nb_v _,trivial⟩,trivial,rfl⟩ (by show 0≤0; decide)) (en_eqM (r:=(.v (.bool (qI1_5 P d n q st y)))) (ys:=[]) (by rfl) (by rfl) (en_retM (by kernel_rfl) (by kernel_rfl) rfl (.inr rfl)))
theorem holds_r (n:Nat) (d q:Int) (y:Value) (P:PL) (st:Nat→Bool) (hE:roE n d q (cT P) P.length=0) (h0:0 < (qI1_11 P d n q st y).length) (hl:0 < (qI1_8 P d n q st y).length):GivesM pg 44 [(.agg (rdT [.v (.int .i64 n),.v (.int .i64 d),.v (.int .i64 q),.xl y P.length 3 (cT P)] (st)))] [] ((.v (.bool (hoB (cT P) q d (qI1_10 P d n q st y) (qI1_11 P d n q st y).length n)))) [] :=
 givesM_parts 15 (by kernel_rfl) Try.func44 (by kernel_rfl) (by kernel_rfl) (by kernel_rfl) (fun v eb ec=>goes_less (by kernel_rfl) (by kernel_rfl) (by kernel_rfl) (by kernel_rfl) (hor_2 n d q y P st hE h0 hl v eb ec []))
theorem holds_g (n:Nat) (d q:Int) (y:Value) (P:PL) (st:Nat→Bool) (hE:roE n d q (cT P) P.length=0):GivesM pg 44 [.agg (rdT [.v (.int .i64 n),.v (.int .i64 d),.v (.int .i64 q),.xl y P.length 3 (cT P)] (st))] [] (.v (.bool (hoB (cT P) q d (qI1_10 P d n q st y) (qI1_11 P d n q st y).length n))) []:=by
 rcases Nat.eq_zero_or_pos (qI1_11 P d n q st y).length with h0 | h0
 ·exact holds_a n d q y P st hE h0
 ·rcases Nat.eq_zero_or_pos (qI1_8 P d n q st y).length with hl | hl
  ·exact holds_n n d q y P st hE h0 hl
  ·exact holds_r n d q y P st hE h0 hl
theorem cost_g (n:Nat) (d q:Int) (y:Value) (P:PL) (st:Nat→Bool) (hE:roE n d q (cT P) P.length=0):GivesM pg 45 [.agg (rdT [.v (.int .i64 n),.v (.int .i64 d),.v (.int .i64 q),.xl y P.length 3 (cT P)] (st))] [] (.v (.int .i64 (suC (cT P) (qI1_10 P d n q st y) (qI1_11 P d n q st y).length))) []:=by
 cases h0:(qI1_11 P d n q st y).length with
 | zero=>exact cost_a n d q y P st hE h0
 | succ m=>exact cost_b n d q y P st m hE h0
def rlS:List AV→List AB→Option ((AV×List AB)×List Prop):=fun args xs =>
 match args with
 | [a,.xl z k j e]=>match roadV a,xs with
  | some (n,d,q,y,m,c),[]=>some ((.sl 0 0 n.toNat n.toNat,[.cells (cI (tabL (litF c q e k) n.toNat)) 3]),[IsT m c,IsC j k e,icE n d q c m e k=0,k≤1000])
  | _,_=>none
 | _=>none
def rlO:OrcH:=mOrc 43 rlS
theorem known_rl:Known pg (clsO rlO):=known_m (fun args xs r ys ps h hp=>by
 unfold rlS at h
 split at h
 ·split at h
  ·rename_i n d q y m c e2
   cases h
   obtain ⟨⟨P,rfl,rfl⟩,⟨rfl,C,rfl,rfl⟩,hE,hk,-⟩:=hp
   obtain ⟨n,rfl⟩:∃ k:Nat,n=((k:Nat):Int):=⟨n.toNat,by have h9:=(roE_zero (icE_zero hE).1).2.1.1; omega⟩
   rw [roadV_eq e2]
   refine ⟨fun x hx=>absurd hx List.not_mem_nil,fun x hx=>?_,rlit_g n d q y P _ C hE hk⟩
   rcases List.mem_cons.1 hx with rfl | hx
   ·exact freeB_cells (fP (cI_plain _))
   ·exact absurd hx List.not_mem_nil
  ·cases h
 ·cases h)
def rhK1:Code:=bodyC Try.f26
def rhK3:Code:=tlC rhK1
def rhK6:Code:=tlC rhK3
def rhK9:Code:=tlC rhK6
def rhK10:Code:=(hdC rhK6)
def rhK12:Code:=tlC rhK10
def rhK16:Code:=loopC rhK12
theorem rh_19 (n:Nat) (d q:Int) (y:Value) (P:PL) (z:Value) (C:List Int) (hE:icE n d q (cT P) P.length (cI C) C.length=0) (hC:C.length≤1000) (h0b:∀ k,k < (n)→d < litF (cT P) q (cI C) C.length k) (hqrh18_1:(ltI n n)=false) (v:BaseW) (eb:EB) (ec:EC) (hs:LN):Goes pg 23 rhK9 (⟨[],[],2,[]⟩) (BaseW.H (bw v 0 eb ec) hs) (OutM pg Try.f26 23 ((.v (.bool (hoB (cT P) q d (cI C) C.length n)))) [] (bw v 0 eb ec)):=by
 have hcl_C:=cI_len C
 obtain ⟨hR,hch⟩:=icE_zero hE
 obtain ⟨hm,⟨ha1,ha2,ha3⟩,hp⟩:=roE_zero hR
 have ghqrh18_1:=lF hqrh18_1
 exact gL isR_e (gK cm (known_rl) 200 (T':=⟨[(4,(.v (.bool .true)))],[],0,[]⟩) (e:=.ret) (m:=2) (ps:=[]) [.go] (by kernel_rfl) (by kernel_rfl) trivial rfl (by show 0≤2; decide) ⟨⟨nb_v _,trivial⟩,trivial,rfl⟩ (by show 0≤0; decide)) (en_eqM (r:=(.v (.bool .true))) (ys:=[]) (by rw [ho_yes h0b]) (by rfl) (en_retM (by kernel_rfl) (by kernel_rfl) rfl (.inr rfl)))
theorem rh_17 (n:Nat) (d q:Int) (y:Value) (P:PL) (z:Value) (C:List Int) (hE:icE n d q (cT P) P.length (cI C) C.length=0) (hC:C.length≤1000) (j:Nat) (hj1:j≤n) (hj2:∀ k,k < j→d < litF (cT P) q (cI C) C.length k) (v:BaseW) (eb:EB) (ec:EC) (hs:LN):Goes pg 23 rhK16 (⟨[(2,(.ptr 0 0)),(5,(.sl 1 0 (n) (n))),(6,(.v (.int .i64 j)))],[],2,[(qI1_7 P d n q y),(qI1_9 C P n q)]⟩) (BaseW.H (bw v 0 eb ec) hs) (Hd.StepC pg 23 0 (fun j:{j:Nat // j≤n∧∀ k,k < j→d < litF (cT P) q (cI C) C.length k}=>⟨[(2,(.ptr 0 0)),(5,(.sl 1 0 (n) (n))),(6,(.v (.int .i64 j.1)))],[],2,[(qI1_7 P d n q y),(qI1_9 C P n q)]⟩) (fun j:{j:Nat // j≤n∧∀ k,k < j→d < litF (cT P) q (cI C) C.length k}=>n - j.1) rhK9 (bw v 0 eb ec) (OutM pg Try.f26 23 ((.v (.bool (hoB (cT P) q d (cI C) C.length n)))) [] (bw v 0 eb ec)) (⟨j,hj1,hj2⟩:{j:Nat // j≤n∧∀ k,k < j→d < litF (cT P) q (cI C) C.length k})):=by
 have hcl_C:=cI_len C
 obtain ⟨hR,hch⟩:=icE_zero hE
 obtain ⟨hm,⟨ha1,ha2,ha3⟩,hp⟩:=roE_zero hR
 rcases bE (ltI j n) with hqrh18_1 | hqrh18_1
 ·skip
  have ghqrh18_1:=lT hqrh18_1
  rcases bE (ltI d (intAt (qI1_12 C P n q) (0 + j * 1))) with hqrh18_2 | hqrh18_2
  ·skip
   have ghqrh18_2:=lT hqrh18_2
   rw [show 0 + j * 1=j by omega,tab_int0 _ (show j < n by omega)] at ghqrh18_2
   exact gL isN_e (gT cm (known_rl) 200 (T':=⟨[(2,(.ptr 0 0)),(5,(.sl 1 0 (n) (n))),(6,(.v (.int .i64 (((j + 1):Nat):Int))))],[],2,[(qI1_7 P d n q y),(qI1_9 C P n q)]⟩) (e:=.normal) (ps:=[ltI j n=true,j < n,loadL pg (qI1_12 C P n q) (0 + j * 1) 3=some (.v (.int .i64 (intAt (qI1_12 C P n q) (0 + j * 1)))),(!ltI d (intAt (qI1_12 C P n q) (0 + j * 1)))=false,inR .i64 (((j:Nat):Int) + 1)]) [.go,.go,.go,.go,.b true,.go,.go,.sym,.sym,.go,.go,.go,.b false,.go,.go,.go] (by kernel_rfl) (by kernel_rfl) ⟨hqrh18_1,(by omega),(by rw [Nat.zero_add,Nat.mul_one]; exact cI_load (by rw [tabL_len]; omega) 3 (u3) rfl),(by rw [hqrh18_2]; rfl),(by show -9223372036854775808≤_∧_≤9223372036854775807; constructor <;> omega),trivial⟩ rfl) (eO (⟨j + 1,by omega,(up_next0 hj2 (by omega))⟩) (by show n - (j + 1) < n - j; omega) rfl)
  ·skip
   have ghqrh18_2:=lF hqrh18_2
   rw [show 0 + j * 1=j by omega,tab_int0 _ (show j < n by omega)] at ghqrh18_2
   exact gL isR_e (gK cm (known_rl) 200 (T':=⟨[(4,(.v (.bool .false)))],[],0,[]⟩) (e:=.ret) (m:=2) (ps:=[ltI j n=true,j < n,loadL pg (qI1_12 C P n q) (0 + j * 1) 3=some (.v (.int .i64 (intAt (qI1_12 C P n q) (0 + j * 1)))),(!ltI d (intAt (qI1_12 C P n q) (0 + j * 1)))=true]) [.go,.go,.go,.go,.b true,.go,.go,.sym,.sym,.go,.go,.go,.b true,.go] (by kernel_rfl) (by kernel_rfl) ⟨hqrh18_1,(by omega),(by rw [Nat.zero_add,Nat.mul_one]; exact cI_load (by rw [tabL_len]; omega) 3 (u3) rfl),(by rw [hqrh18_2]; rfl),trivial⟩ rfl (by show 0≤2; decide) ⟨⟨nb_v _,trivial⟩,trivial,rfl⟩ (by show 0≤0; decide)) (Hd.en_so (by intro h; cases h) (by intro h; cases h) (en_eqM (r:=(.v (.bool .false))) (ys:=[]) (by rw [ho_no (i:=j) (by omega) (by omega)]) (by rfl) (en_retM (by kernel_rfl) (by kernel_rfl) rfl (.inr rfl))))
 ·skip
  have ghqrh18_1:=lF hqrh18_1
  obtain rfl:n=j:=by omega
  exact gL isX_e (gT cm (known_rl) 200 (T':=⟨[],[],2,[]⟩) (e:=.exit 0) (ps:=[ltI n n=false]) [.go,.go,.go,.go,.b false] (by kernel_rfl) (by kernel_rfl) ⟨hqrh18_1,trivial⟩ rfl) (Hd.en_sx (rh_19 n d q y P z C hE hC hj2  hqrh18_1 v eb ec hs))
theorem rh_15 (n:Nat) (d q:Int) (y:Value) (P:PL) (z:Value) (C:List Int) (hE:icE n d q (cT P) P.length (cI C) C.length=0) (hC:C.length≤1000) (v:BaseW) (eb:EB) (ec:EC) (hs:LN):Goes pg 23 rhK12 ((qI1_1 C P d n q y)) (BaseW.H (bw v 0 eb ec) hs) (Hd.AfterN pg 23 rhK9 (bw v 0 eb ec) (OutM pg Try.f26 23 ((.v (.bool (hoB (cT P) q d (cI C) C.length n)))) [] (bw v 0 eb ec))):=by
 have hcl_C:=cI_len C
 obtain ⟨hR,hch⟩:=icE_zero hE
 obtain ⟨hm,⟨ha1,ha2,ha3⟩,hp⟩:=roE_zero hR
 exact Hd.goes_loopA (id:=0) (by kernel_rfl) (by kernel_rfl) (fun j:{j:Nat // j≤n∧∀ k,k < j→d < litF (cT P) q (cI C) C.length k}=>⟨[(2,(.ptr 0 0)),(5,(.sl 1 0 (n) (n))),(6,(.v (.int .i64 j.1)))],[],2,[(qI1_7 P d n q y),(qI1_9 C P n q)]⟩) (fun j:{j:Nat // j≤n∧∀ k,k < j→d < litF (cT P) q (cI C) C.length k}=>n - j.1) (fun ix_ hs=>rh_17 n d q y P z C hE hC ix_.1 ix_.2.1 ix_.2.2 v eb ec hs) ⟨0,Nat.zero_le _,(fun k hk=>by omega)⟩ hs
theorem rh_14 (n:Nat) (d q:Int) (y:Value) (P:PL) (z:Value) (C:List Int) (hE:icE n d q (cT P) P.length (cI C) C.length=0) (hC:C.length≤1000) (v:BaseW) (eb:EB) (ec:EC) (hs:LN):Goes pg 23 rhK12 ((qI1_1 C P d n q y)) (BaseW.H (bw v 0 eb ec) hs) (Hd.AfterN pg 23 rhK9 (bw v 0 eb ec) (OutM pg Try.f26 23 ((.v (.bool (hoB (cT P) q d (cI C) C.length n)))) [] (bw v 0 eb ec))):=by
 exact rh_15 n d q y P z C hE hC v eb ec hs
theorem rh_11 (n:Nat) (d q:Int) (y:Value) (P:PL) (z:Value) (C:List Int) (hE:icE n d q (cT P) P.length (cI C) C.length=0) (hC:C.length≤1000) (v:BaseW) (eb:EB) (ec:EC) (hs:LN):Goes pg 23 rhK10 ((qI1_2 C P d n q y)) (BaseW.H (bw v 0 eb ec) hs) (Hd.AfterN pg 23 rhK9 (bw v 0 eb ec) (OutM pg Try.f26 23 ((.v (.bool (hoB (cT P) q d (cI C) C.length n)))) [] (bw v 0 eb ec))):=by
 have hcl_C:=cI_len C
 obtain ⟨hR,hch⟩:=icE_zero hE
 obtain ⟨hm,⟨ha1,ha2,ha3⟩,hp⟩:=roE_zero hR
 refine gS (by kernel_rfl) ?_
 exact gL isN_e (gT cm (known_rl) 200 (T':=(qI1_1 C P d n q y)) (e:=.normal) (ps:=[]) [.go] (by kernel_rfl) (by kernel_rfl) trivial rfl) (Hd.en_n (rh_14 n d q y P z C hE hC v eb ec hs))
theorem rh_8 (n:Nat) (d q:Int) (y:Value) (P:PL) (z:Value) (C:List Int) (hE:icE n d q (cT P) P.length (cI C) C.length=0) (hC:C.length≤1000) (v:BaseW) (eb:EB) (ec:EC) (hs:LN):Goes pg 23 rhK6 ((qI1_2 C P d n q y)) (BaseW.H (bw v 0 eb ec) hs) (OutM pg Try.f26 23 ((.v (.bool (hoB (cT P) q d (cI C) C.length n)))) [] (bw v 0 eb ec)):=by
 exact gS (by kernel_rfl) (rh_11 n d q y P z C hE hC v eb ec hs)
theorem rh_5 (n:Nat) (d q:Int) (y:Value) (P:PL) (z:Value) (C:List Int) (hE:icE n d q (cT P) P.length (cI C) C.length=0) (hC:C.length≤1000) (v:BaseW) (eb:EB) (ec:EC) (hs:LN):Goes pg 23 rhK3 ((qI1_4 C P d n q y z)) (BaseW.H (bw v 0 eb ec) hs) (OutM pg Try.f26 23 ((.v (.bool (hoB (cT P) q d (cI C) C.length n)))) [] (bw v 0 eb ec)):=by
 have hcl_C:=cI_len C
 obtain ⟨hR,hch⟩:=icE_zero hE
 obtain ⟨hm,⟨ha1,ha2,ha3⟩,hp⟩:=roE_zero hR
 refine gS (by kernel_rfl) ?_
 exact gL isN_e (gT cm (known_rl) 200 (T':=(qI1_2 C P d n q y)) (e:=.normal) (ps:=[FreeL (cT P),FreeL (cI C),IsT P.length (cT P),IsC 1 C.length (cI C),icE n d q (cT P) P.length (cI C) C.length=0,C.length≤1000]) [.go,.go,.go] (by kernel_rfl) (by kernel_rfl) ⟨(fP (cT_plain P)),(fP (cI_plain C)),⟨P,rfl,rfl⟩,⟨rfl,_,rfl,rfl⟩,hE,hC,trivial⟩ rfl) (Hd.en_n (rh_8 n d q y P z C hE hC v eb ec hs))
theorem rh_2 (n:Nat) (d q:Int) (y:Value) (P:PL) (z:Value) (C:List Int) (hE:icE n d q (cT P) P.length (cI C) C.length=0) (hC:C.length≤1000) (v:BaseW) (eb:EB) (ec:EC) (hs:LN):Goes pg 23 rhK1 (⟨[(0,(.agg [.v (.int .i64 n),.v (.int .i64 d),.v (.int .i64 q),.xl y P.length 3 (cT P)])),(1,(.xl z C.length 1 (cI C)))],[],0,[]⟩) (BaseW.H (bw v 0 eb ec) hs) (OutM pg Try.f26 23 ((.v (.bool (hoB (cT P) q d (cI C) C.length n)))) [] (bw v 0 eb ec)):=by
 have hcl_C:=cI_len C
 obtain ⟨hR,hch⟩:=icE_zero hE
 obtain ⟨hm,⟨ha1,ha2,ha3⟩,hp⟩:=roE_zero hR
 refine gS (by kernel_rfl) ?_
 exact gL isN_e (gT cm (known_rl) 200 (T':=(qI1_4 C P d n q y z)) (e:=.normal) (ps:=[]) [.go,.go] (by kernel_rfl) (by kernel_rfl) trivial rfl) (Hd.en_n (rh_5 n d q y P z C hE hC v eb ec hs))
theorem rholds_g (n:Nat) (d q:Int) (y:Value) (P:PL) (z:Value) (C:List Int) (hE:icE n d q (cT P) P.length (cI C) C.length=0) (hC:C.length≤1000):GivesM pg 26 [(.agg [.v (.int .i64 n),.v (.int .i64 d),.v (.int .i64 q),.xl y P.length 3 (cT P)]),(.xl z C.length 1 (cI C))] [] ((.v (.bool (hoB (cT P) q d (cI C) C.length n)))) [] :=
 givesM_parts 23 (by kernel_rfl) Try.func26 (by kernel_rfl) (by kernel_rfl) (by kernel_rfl) (fun v eb ec=>goes_less (by kernel_rfl) (by kernel_rfl) (by kernel_rfl) (by kernel_rfl) (rh_2 n d q y P z C hE hC v eb ec []))
def ckS:List AV→Option (Res1×List Prop):=fun args =>
 match args with
 | [a,.xl z k j e]=>match roadV a with
  | some (n,d,q,y,m,c)=>some (.val (.v (.int .i64 (icE n d q c m e k))),[IsT m c,IsC j k e,k≤1000])
  | none=>none
 | _=>none
def ckO:OrcH:=extOrc 40 ckS
theorem known_ck:Known pg (clsO ckO):=known_ext (fun args r ps h hp=>by
 unfold ckS at h
 split at h
 ·split at h
  ·rename_i n d q y m c e2
   cases h
   obtain ⟨⟨P,rfl,rfl⟩,⟨rfl,C,rfl,rfl⟩,hk,-⟩:=hp
   rw [roadV_eq e2]
   exact ⟨extL_cons (ext_road n d q y P) (extL_cons (ext_xl (extL_cI C)) extL_nil),_,rfl,check_g n d q y P _ C hk⟩
  ·cases h
 ·cases h)
def isS:List AV→Option (Res1×List Prop):=fun args =>
 match args with
 | [a,.xl z k j e]=>match roadV a with
  | some (n,d,q,y,m,c)=>some (.val (.v (.int .i64 (icE n d q c m e k))),[IsT m c,IsC j k e,k≤1000])
  | none=>none
 | _=>none
def isO:OrcH:=extOrc 25 isS
theorem known_is:Known pg (clsO isO):=known_ext (fun args r ps h hp=>by
 unfold isS at h
 split at h
 ·split at h
  ·rename_i n d q y m c e2
   cases h
   obtain ⟨⟨P,rfl,rfl⟩,⟨rfl,C,rfl,rfl⟩,hk,-⟩:=hp
   rw [roadV_eq e2]
   exact ⟨extL_cons (ext_road n d q y P) (extL_cons (ext_xl (extL_cI C)) extL_nil),_,rfl,isch_g n d q y P _ C hk⟩
  ·cases h
 ·cases h)
def ltSc:List AV→List AB→Option ((AV×List AB)×List Prop):=fun args xs =>
 match args with
 | [.agg l]=>match rdV l,xs with
  | some (n,d,q,y,m,c),[]=>some ((.sl 0 0 n.toNat n.toNat,[.cells (cI (tabL (litF c q (cI (flt (stnd l) m)) (flt (stnd l) m).length) n.toNat)) 3]),[IsRd l,roE n d q c m=0,(flt (stnd l) m).length=0∨0 < (flt (stnd l) m).length])
  | _,_=>none
 | _=>none
def ltOc:OrcH:=mOrc 42 ltSc
theorem lit_g (n:Nat) (d q:Int) (y:Value) (P:PL) (st:Nat→Bool) (hE:roE n d q (cT P) P.length=0):GivesM pg 42 [.agg (rdT [.v (.int .i64 n),.v (.int .i64 d),.v (.int .i64 q),.xl y P.length 3 (cT P)] (st))] [] (.sl 0 0 n n) [.cells (cI (tabL (litF (cT P) q (qI1_10 P d n q st y) (qI1_11 P d n q st y).length) n)) 3]:=by
 rcases Nat.eq_zero_or_pos (qI1_11 P d n q st y).length with h0 | h0
 ·have:=lit_a n d q y P st hE h0
  rw [h0]
  exact this
 ·exact lit_b n d q y P st hE h0
theorem known_ltc:Known pg (clsO ltOc):=known_m (fun args xs r ys ps h hp=>by
 unfold ltSc at h
 split at h
 ·split at h
  ·rename_i n d q y m c e
   cases h
   obtain ⟨⟨n,d,q,y,P,st,rfl⟩,hE,-⟩:=hp
   obtain ⟨rfl,rfl,rfl,rfl,rfl,rfl⟩:=rdV_eq e
   obtain ⟨k,rfl⟩:∃ k:Nat,n=((k:Nat):Int):=⟨n.toNat,by have h9:=(roE_zero hE).2.1.1; omega⟩
   refine ⟨fun x hx=>absurd hx List.not_mem_nil,fun x hx=>?_,lit_g k _ _ _ P st hE⟩
   rcases List.mem_cons.1 hx with rfl | hx
   ·exact freeB_cells (fP (cI_plain _))
   ·exact absurd hx List.not_mem_nil
  ·cases h
 ·cases h)
def hoS:List AV→List AB→Option ((AV×List AB)×List Prop):=fun args xs =>
 match args with
 | [.agg l]=>match rdV l,xs with
  | some (n,d,q,y,m,c),[]=>some ((.v (.bool (hoB c q d (cI (flt (stnd l) m)) (flt (stnd l) m).length n.toNat)),[]),[IsRd l,roE n d q c m=0])
  | _,_=>none
 | _=>none
def hoO:OrcH:=mOrc 44 hoS
theorem known_ho:Known pg (clsO hoO):=known_m (fun args xs r ys ps h hp=>by
 unfold hoS at h
 split at h
 ·split at h
  ·rename_i n d q y m c e
   cases h
   obtain ⟨⟨n,d,q,y,P,st,rfl⟩,hE,-⟩:=hp
   obtain ⟨rfl,rfl,rfl,rfl,rfl,rfl⟩:=rdV_eq e
   obtain ⟨k,rfl⟩:∃ k:Nat,n=((k:Nat):Int):=⟨n.toNat,by have h9:=(roE_zero hE).2.1.1; omega⟩
   exact ⟨fun x hx=>absurd hx List.not_mem_nil,fun x hx=>absurd hx List.not_mem_nil,holds_g k _ _ _ P st hE⟩
  ·cases h
 ·cases h)
def csS:List AV→List AB→Option ((AV×List AB)×List Prop):=fun args xs =>
 match args with
 | [.agg l]=>match rdV l,xs with
  | some (n,d,q,y,m,c),[]=>some ((.v (.int .i64 (suC c (cI (flt (stnd l) m)) (flt (stnd l) m).length)),[]),[IsRd l,roE n d q c m=0])
  | _,_=>none
 | _=>none
def csO:OrcH:=mOrc 45 csS
theorem known_cs:Known pg (clsO csO):=known_m (fun args xs r ys ps h hp=>by
 unfold csS at h
 split at h
 ·split at h
  ·rename_i n d q y m c e
   cases h
   obtain ⟨⟨n,d,q,y,P,st,rfl⟩,hE,-⟩:=hp
   obtain ⟨rfl,rfl,rfl,rfl,rfl,rfl⟩:=rdV_eq e
   obtain ⟨k,rfl⟩:∃ k:Nat,n=((k:Nat):Int):=⟨n.toNat,by have h9:=(roE_zero hE).2.1.1; omega⟩
   exact ⟨fun x hx=>absurd hx List.not_mem_nil,fun x hx=>absurd hx List.not_mem_nil,cost_g k _ _ _ P st hE⟩
  ·cases h
 ·cases h)
def o1O:OrcH:=orO (orO ckO nrO) (orO ltOc (orO hoO csO))
theorem known_o1:Known pg (clsO o1O):=known_or (known_or known_ck known_nr) (known_or known_ltc (known_or known_ho known_cs))
end
end Go.Proofs.Ytnphldmnakbknaa
