import Derived.Test.YtnphldmnakbknaaI1
set_option linter.all false
/- Check of both. -/
namespace Go.Proofs.Ytnphldmnakbknaa
open Go Ev
noncomputable section
def oCgK1:Code:=bodyC Try.f17
set_option maxHeartbeats 2000000 in
theorem oCg_2 (n:Nat) (d q:Int) (y:Value) (P:PL) (z:Value) (C:List Int) (hE:icE n d q (cT P) P.length (cI C) C.length=0) (hC:C.length≤1000) (v:BaseW) (eb:EB) (ec:EC) (hs:LN):Goes pg 22 oCgK1 (⟨[(0,(.agg [.v (.int .i64 n),.v (.int .i64 d),.v (.int .i64 q),.xl y P.length 3 (cT P)])),(1,(.xl z C.length 1 (cI C)))],[],0,[]⟩) (BaseW.H (bw v 0 eb ec) hs) (OutM pg Try.f17 22 ((.tup [.v (.int .i64 (if hoB (cT P) q d (cI C) C.length n=true then suC (cT P) (cI C) C.length else 0)),.v (.int .i64 (if hoB (cT P) q d (cI C) C.length n=true then 0 else 18))])) [] (bw v 0 eb ec)):=by
 have hcl_C:=cI_len C
 obtain ⟨hR,hch⟩:=icE_zero hE
 obtain ⟨hm,⟨ha1,ha2,ha3⟩,hp⟩:=roE_zero hR
 have hX:(flt (stM n d q y P (stC (cI C) C.length)) P.length)=C:=(flt_M hm).trans (flt_stC hch)
 rcases bE (eqI (icE n d q (cT P) P.length (cI C) C.length) 0) with hqoCg3_1 | hqoCg3_1
 ·skip
  have ghqoCg3_1:=eqI_true hqoCg3_1
  rcases bE (hoB (cT P) q d (cI (flt (stM n d q y P (stC (cI C) C.length)) P.length)) (flt (stM n d q y P (stC (cI C) C.length)) P.length).length n) with hqoCg3_2 | hqoCg3_2
  ·skip
   exact gL isR_e (gK cm (known_o1) 200 (T':=⟨[(4,(.v (.int .i64 (suC (cT P) (cI (flt (stM n d q y P (stC (cI C) C.length)) P.length)) (flt (stM n d q y P (stC (cI C) C.length)) P.length).length)))),(5,(.v (.int .i64 (.ofNat 0))))],[],0,[]⟩) (e:=.ret) (m:=2) (ps:=[IsT P.length (cT P),IsC 1 C.length (cI C),C.length≤1000,(!eqI (icE n d q (cT P) P.length (cI C) C.length) 0)=false,FreeL (cT P),FreeL (cI C),IsT P.length (cT P),IsC 1 C.length (cI C),P.length≤24,C.length≤1000,chB (cI C) C.length P.length=true,FreeL (cT P),FreeL (cT P),IsRd (rdT [.v (.int .i64 n),.v (.int .i64 d),.v (.int .i64 q),AV.xl y P.length 3 (cT P)] (stC (cI C) C.length)),roE n d q (cT P) P.length=0,(!hoB (cT P) q d (cI (flt (stM n d q y P (stC (cI C) C.length)) P.length)) (flt (stM n d q y P (stC (cI C) C.length)) P.length).length n)=false,FreeL (cT P),IsRd (rdT [.v (.int .i64 n),.v (.int .i64 d),.v (.int .i64 q),AV.xl y P.length 3 (cT P)] (stC (cI C) C.length)),roE n d q (cT P) P.length=0]) [.go,.go,.go,.go,.go,.go,.go,.go,.b false,.go,.go,.go,.go,.go,.go,.b false,.go,.go,.go] (by kernel_rfl) (by kernel_rfl) ⟨⟨P,rfl,rfl⟩,⟨rfl,_,rfl,rfl⟩,hC,(by rw [hqoCg3_1]; rfl),(fP (cT_plain P)),(fP (cI_plain _)),⟨P,rfl,rfl⟩,⟨rfl,_,rfl,rfl⟩,hm,hC,(chB_true.2 hch),(fP (cT_plain P)),(fP (cT_plain P)),⟨_,_,_,_,P,_,rfl⟩,hR,(by rw [hqoCg3_2]; rfl),(fP (cT_plain P)),⟨_,_,_,_,P,_,rfl⟩,hR,trivial⟩ rfl (by show 0≤2; decide) ⟨⟨nb_v _,nb_v _,trivial⟩,trivial,rfl⟩ (by show 0≤0; decide)) (en_eqM (r:=(.tup [(.v (.int .i64 (suC (cT P) (cI (flt (stM n d q y P (stC (cI C) C.length)) P.length)) (flt (stM n d q y P (stC (cI C) C.length)) P.length).length))),(.v (.int .i64 (.ofNat 0)))])) (ys:=[]) (by ((rw [if_pos (show hoB (cT P) q d (cI C) C.length n=true from by rw [hX] at hqoCg3_2; exact hqoCg3_2),if_pos (show hoB (cT P) q d (cI C) C.length n=true from by rw [hX] at hqoCg3_2; exact hqoCg3_2)]; rw [hX]) <;> rfl)) (by rfl) (en_retM (by kernel_rfl) (by kernel_rfl) rfl (.inr rfl)))
  ·skip
   exact gL isR_e (gK cm (known_o1) 200 (T':=⟨[(4,(.v (.int .i64 (.ofNat 0)))),(5,(.v (.int .i64 (.ofNat 18))))],[],0,[]⟩) (e:=.ret) (m:=2) (ps:=[IsT P.length (cT P),IsC 1 C.length (cI C),C.length≤1000,(!eqI (icE n d q (cT P) P.length (cI C) C.length) 0)=false,FreeL (cT P),FreeL (cI C),IsT P.length (cT P),IsC 1 C.length (cI C),P.length≤24,C.length≤1000,chB (cI C) C.length P.length=true,FreeL (cT P),FreeL (cT P),IsRd (rdT [.v (.int .i64 n),.v (.int .i64 d),.v (.int .i64 q),AV.xl y P.length 3 (cT P)] (stC (cI C) C.length)),roE n d q (cT P) P.length=0,(!hoB (cT P) q d (cI (flt (stM n d q y P (stC (cI C) C.length)) P.length)) (flt (stM n d q y P (stC (cI C) C.length)) P.length).length n)=true]) [.go,.go,.go,.go,.go,.go,.go,.go,.b false,.go,.go,.go,.go,.go,.go,.b true,.go,.go] (by kernel_rfl) (by kernel_rfl) ⟨⟨P,rfl,rfl⟩,⟨rfl,_,rfl,rfl⟩,hC,(by rw [hqoCg3_1]; rfl),(fP (cT_plain P)),(fP (cI_plain _)),⟨P,rfl,rfl⟩,⟨rfl,_,rfl,rfl⟩,hm,hC,(chB_true.2 hch),(fP (cT_plain P)),(fP (cT_plain P)),⟨_,_,_,_,P,_,rfl⟩,hR,(by rw [hqoCg3_2]; rfl),trivial⟩ rfl (by show 0≤2; decide) ⟨⟨nb_v _,nb_v _,trivial⟩,trivial,rfl⟩ (by show 0≤0; decide)) (en_eqM (r:=(.tup [(.v (.int .i64 (.ofNat 0))),(.v (.int .i64 (.ofNat 18)))])) (ys:=[]) (by ((rw [if_neg (by rw [(show hoB (cT P) q d (cI C) C.length n=false from by rw [hX] at hqoCg3_2; exact hqoCg3_2)]; decide),if_neg (by rw [(show hoB (cT P) q d (cI C) C.length n=false from by rw [hX] at hqoCg3_2; exact hqoCg3_2)]; decide)]) <;> rfl)) (by rfl) (en_retM (by kernel_rfl) (by kernel_rfl) rfl (.inr rfl)))
 ·skip
  have ghqoCg3_1:=eqI_false hqoCg3_1
  exact absurd hE (eqI_false hqoCg3_1)
theorem oCg (n:Nat) (d q:Int) (y:Value) (P:PL) (z:Value) (C:List Int) (hE:icE n d q (cT P) P.length (cI C) C.length=0) (hC:C.length≤1000):GivesM pg 17 [(.agg [.v (.int .i64 n),.v (.int .i64 d),.v (.int .i64 q),.xl y P.length 3 (cT P)]),(.xl z C.length 1 (cI C))] [] ((.tup [.v (.int .i64 (if hoB (cT P) q d (cI C) C.length n=true then suC (cT P) (cI C) C.length else 0)),.v (.int .i64 (if hoB (cT P) q d (cI C) C.length n=true then 0 else 18))])) [] :=
 givesM_parts 22 (by kernel_rfl) Try.func17 (by kernel_rfl) (by kernel_rfl) (by kernel_rfl) (fun v eb ec=>goes_less (by kernel_rfl) (by kernel_rfl) (by kernel_rfl) (by kernel_rfl) (oCg_2 n d q y P z C hE hC v eb ec []))
end
end Go.Proofs.Ytnphldmnakbknaa
