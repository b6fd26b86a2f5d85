import Derived.Test.YtmankoikpadkpaaM8
set_option linter.all false
/- allCodes of 2 rows. Made by gac.py. -/
namespace Go.Proofs.Ytmankoikpadkpaa
open Ev
noncomputable section
def cm:AV:=.v (.int .i64 (.negSucc 0))
def cz:AV:=.v (.int .i64 (.ofNat 0))
def cp:AV:=.v (.int .i64 (.ofNat 1))
def cod0:List AV:=[cz,cz,cz,cz]
def cod1:List AV:=[cz,cz,cz,cz,cp,cz,cz,cz,cm,cz,cz,cz]
def cod2:List AV:=[cz,cz,cz,cz,cp,cz,cz,cz,cm,cz,cz,cz,cz,cp,cz,cz,cz,cm,cz,cz,cp,cp,cz,cz,cp,cm,cz,cz,cm,cp,cz,cz,cm,cm,cz,cz]
def acB:Code:=loopC (tlC (hdC (tlC (tlC (bodyC Try.f57)))))
def acH0:Ev.Lit:=oneT 3 (.sl 0 0 1 1) [(10,.int .i64 2),(11,.int .i64 0)] 1 0 (.cells cod0 61)
def acH1:Ev.Lit:=oneT 3 (.slu 0 0 3 0) [(10,.int .i64 2),(11,.int .i64 1)] 1 0 (.row cod1 61 4)
def acH2:Ev.Lit:=oneT 3 (.slu 0 0 9 0) [(10,.int .i64 2),(11,.int .i64 2)] 1 0 (.row cod2 61 4)
def vcod1:List Value:=[.int .i64 (.ofNat 0),.int .i64 (.ofNat 0),.int .i64 (.ofNat 0),.int .i64 (.ofNat 0),.int .i64 (.ofNat 1),.int .i64 (.ofNat 0),.int .i64 (.ofNat 0),.int .i64 (.ofNat 0),.int .i64 (.negSucc 0),.int .i64 (.ofNat 0),.int .i64 (.ofNat 0),.int .i64 (.ofNat 0)]
def vcod2:List Value:=[.int .i64 (.ofNat 0),.int .i64 (.ofNat 0),.int .i64 (.ofNat 0),.int .i64 (.ofNat 0),.int .i64 (.ofNat 1),.int .i64 (.ofNat 0),.int .i64 (.ofNat 0),.int .i64 (.ofNat 0),.int .i64 (.negSucc 0),.int .i64 (.ofNat 0),.int .i64 (.ofNat 0),.int .i64 (.ofNat 0),.int .i64 (.ofNat 0),.int .i64 (.ofNat 1),.int .i64 (.ofNat 0),.int .i64 (.ofNat 0),.int .i64 (.ofNat 0),.int .i64 (.negSucc 0),.int .i64 (.ofNat 0),.int .i64 (.ofNat 0),.int .i64 (.ofNat 1),.int .i64 (.ofNat 1),.int .i64 (.ofNat 0),.int .i64 (.ofNat 0),.int .i64 (.ofNat 1),.int .i64 (.negSucc 0),.int .i64 (.ofNat 0),.int .i64 (.ofNat 0),.int .i64 (.negSucc 0),.int .i64 (.ofNat 1),.int .i64 (.ofNat 0),.int .i64 (.ofNat 0),.int .i64 (.negSucc 0),.int .i64 (.negSucc 0),.int .i64 (.ofNat 0),.int .i64 (.ofNat 0)]
theorem acR0_1  (w:World):Goes Try.prog 37 acB acH0 w (Land 37 isN acH1 w) :=
 goes_land (goes_view (T':=oneT 3 (.slu 18 0 3 0) [(10,.int .i64 2),(11,.int .i64 1)] 19 18 (.row cod1 61 4)) (e:=.normal) Try.checked.mixed noKnown (k:=1000) (by kernel_rfl) (by kernel_rfl) rfl) (fun σ a w h=>h.one_slu (vs:=vcod1) rfl ⟨by kernel_rfl,by kernel_rfl,by kernel_rfl⟩)
theorem acR1_3 (f:Nat→Value) (w:World):Goes Try.prog 37 acB (acH1.room 0 3 ((List.range 0).map f)) w (Land 37 isN acH2 w) :=
 goes_land (goes_view (T':=oneT 3 (.slu 54 0 9 0) [(10,.int .i64 2),(11,.int .i64 2)] 55 54 (.row cod2 61 4)) (e:=.normal) Try.checked.mixed noKnown (k:=1000) (by kernel_rfl) (by kernel_rfl) rfl) (fun σ a w h=>h.one_slu (vs:=vcod2) rfl ⟨by kernel_rfl,by kernel_rfl,by kernel_rfl⟩)
theorem acR1_4 (f:Nat→Value) (w:World):Goes Try.prog 37 acB (acH1.room 0 4 ((List.range 4).map f)) w (Land 37 isN acH2 w) :=
 goes_land (goes_view (T':=oneT 3 (.slu 54 0 9 0) [(10,.int .i64 2),(11,.int .i64 2)] 55 54 (.row cod2 61 4)) (e:=.normal) Try.checked.mixed noKnown (k:=1000) (by kernel_rfl) (by kernel_rfl) rfl) (fun σ a w h=>h.one_slu (vs:=vcod2) rfl ⟨by kernel_rfl,by kernel_rfl,by kernel_rfl⟩)
theorem acR1_5 (f:Nat→Value) (w:World):Goes Try.prog 37 acB (acH1.room 0 5 ((List.range 8).map f)) w (Land 37 isN acH2 w) :=
 goes_land (goes_view (T':=oneT 3 (.slu 53 0 9 0) [(10,.int .i64 2),(11,.int .i64 2)] 54 53 (.row cod2 61 4)) (e:=.normal) Try.checked.mixed noKnown (k:=1000) (by kernel_rfl) (by kernel_rfl) rfl) (fun σ a w h=>h.one_slu (vs:=vcod2) rfl ⟨by kernel_rfl,by kernel_rfl,by kernel_rfl⟩)
theorem acR1_6 (f:Nat→Value) (w:World):Goes Try.prog 37 acB (acH1.room 0 6 ((List.range 12).map f)) w (Land 37 isN acH2 w) :=
 goes_land (goes_view (T':=oneT 3 (.slu 53 0 9 0) [(10,.int .i64 2),(11,.int .i64 2)] 54 53 (.row cod2 61 4)) (e:=.normal) Try.checked.mixed noKnown (k:=1000) (by kernel_rfl) (by kernel_rfl) rfl) (fun σ a w h=>h.one_slu (vs:=vcod2) rfl ⟨by kernel_rfl,by kernel_rfl,by kernel_rfl⟩)
theorem acR1_7 (f:Nat→Value) (w:World):Goes Try.prog 37 acB (acH1.room 0 7 ((List.range 16).map f)) w (Land 37 isN acH2 w) :=
 goes_land (goes_view (T':=oneT 3 (.slu 52 0 9 0) [(10,.int .i64 2),(11,.int .i64 2)] 53 52 (.row cod2 61 4)) (e:=.normal) Try.checked.mixed noKnown (k:=1000) (by kernel_rfl) (by kernel_rfl) rfl) (fun σ a w h=>h.one_slu (vs:=vcod2) rfl ⟨by kernel_rfl,by kernel_rfl,by kernel_rfl⟩)
theorem acR1_8 (f:Nat→Value) (w:World):Goes Try.prog 37 acB (acH1.room 0 8 ((List.range 20).map f)) w (Land 37 isN acH2 w) :=
 goes_land (goes_view (T':=oneT 3 (.slu 52 0 9 0) [(10,.int .i64 2),(11,.int .i64 2)] 53 52 (.row cod2 61 4)) (e:=.normal) Try.checked.mixed noKnown (k:=1000) (by kernel_rfl) (by kernel_rfl) rfl) (fun σ a w h=>h.one_slu (vs:=vcod2) rfl ⟨by kernel_rfl,by kernel_rfl,by kernel_rfl⟩)
theorem acR1_b (d:Nat) (f:Nat→Value) (tail:List Value) (ht:tail.length=d * 4) (w:World):Goes Try.prog 37 acB (acH1.room 0 (d + 9) ((List.range 24).map f ++ tail)) w (Land 37 isN acH2 w) :=
 goes_land (goes_view (T':=oneT 3 (.sl 0 0 9 (d + 9)) [(10,.int .i64 2),(11,.int .i64 2)] 52 0 (.cells (cod2 ++ tail.map .v) 61)) (e:=.normal) Try.checked.mixed noKnown (k:=1000) (by kernel_rfl) (by kernel_rfl) rfl) (fun σ a w h=>h.one_sl (vs:=vcod2) rfl (Nat.le_add_left _ _) (by rw [List.length_map,ht]; show 36 + d * 4=(d + 9) * 4; omega) ⟨by kernel_rfl,by kernel_rfl,by kernel_rfl⟩)
theorem acR1 (cap:Nat) (rest:List Value) (hl:cod1.length + rest.length=cap * 4) (w:World):Goes Try.prog 37 acB (acH1.room 0 cap rest) w (Land 37 isN acH2 w):=by
 have hl:12 + rest.length=cap * 4:=hl
 have hc:cap=3∨cap=4∨cap=5∨cap=6∨cap=7∨cap=8∨9≤cap:=by omega
 rcases hc with rfl | rfl | rfl | rfl | rfl | rfl | hc
 ·have e:=list_range undef rest
  rw [show rest.length=0 by omega] at e
  rw [e]
  exact acR1_3 _ w
 ·have e:=list_range undef rest
  rw [show rest.length=4 by omega] at e
  rw [e]
  exact acR1_4 _ w
 ·have e:=list_range undef rest
  rw [show rest.length=8 by omega] at e
  rw [e]
  exact acR1_5 _ w
 ·have e:=list_range undef rest
  rw [show rest.length=12 by omega] at e
  rw [e]
  exact acR1_6 _ w
 ·have e:=list_range undef rest
  rw [show rest.length=16 by omega] at e
  rw [e]
  exact acR1_7 _ w
 ·have e:=list_range undef rest
  rw [show rest.length=20 by omega] at e
  rw [e]
  exact acR1_8 _ w
 ·obtain ⟨d,rfl⟩:∃ d,cap=d + 9:=⟨cap - 9,by omega⟩
  have e:=list_range undef (rest.take 24)
  rw [show (rest.take 24).length=24 by rw [List.length_take]; omega] at e
  rw [← List.take_append_drop 24 rest,e]
  exact acR1_b d _ (rest.drop 24) (by rw [List.length_drop]; omega) w
theorem acX (w:World):Goes Try.prog 37 acB acH2 w (Land 37 (isX 0) acH2 w):=goes_view (e:=.exit 0) Try.checked.mixed noKnown (k:=1000) (by kernel_rfl) (by kernel_rfl) rfl
theorem acE (w:World):Goes Try.prog 37 acB acH2 w (fun e a w'=>e≠.normal∧Exit.inBlock 0 (Land 37 isN acH2 w) e a w') :=
 goes_mono (acX w) (fun e a w' ⟨h1,h2⟩=>by
  obtain rfl:=isX_ok h1
  refine ⟨by simp,?_⟩
  simp only [Exit.inBlock,if_true]
  exact ⟨rfl,h2⟩)
theorem acL (w:World):Goes Try.prog 37 (tlC (hdC (tlC (tlC (bodyC Try.f57))))) acH0 w (Land 37 isN acH2 w):=by
 have hb:isBL (tlC (hdC (tlC (tlC (bodyC Try.f57)))))=true:=by kernel_rfl
 rw [isBL_eq hb]
 rw [show blkId (tlC (hdC (tlC (tlC (bodyC Try.f57)))))=0 by kernel_rfl]
 exact goes_block (goes_loop 3 (rounds_one (acR0_1 w) (rounds_room 0 (l:=cod1) (t:=61) (z:=4) (by kernel_rfl) (by kernel_rfl) (by kernel_rfl) (fun cap rest hl=>rounds_one (acR1 cap rest hl w) (rounds_end (acE w))))))
def acT0:Ev.Lit:=⟨[(0,.v (.int .i64 2))],[],0,[]⟩
def acT1:Ev.Lit:=⟨[(0,.v (.int .i64 2)),(3,.sl 0 0 1 1)],[],1,[(0,.cells cod0 61)]⟩
theorem ac_gives:GivesB Try.prog 57 [.v (.int .i64 2)] (fun b=>.slu b 0 9 0) (.row cod2 61 4) :=
 givesB_parts 37 Try.func57 (by kernel_rfl) (by kernel_rfl) (by kernel_rfl) (one_slu (vs:=vcod2) 9 rfl) (fun w =>
  goes_spine (by kernel_rfl) (goes_view (T':=acT0) (e:=.normal) Try.checked.mixed noKnown (k:=1000) (by kernel_rfl) (by kernel_rfl) rfl)
   (goes_spine (by kernel_rfl) (goes_view (T':=acT1) (e:=.normal) Try.checked.mixed noKnown (k:=1000) (by kernel_rfl) (by kernel_rfl) rfl)
    (goes_spine (by kernel_rfl) (goes_spine (by kernel_rfl) (goes_view (T':=acH0) (e:=.normal) Try.checked.mixed noKnown (k:=1000) (by kernel_rfl) (by kernel_rfl) rfl) (acL w))
     (goes_endB Try.checked.mixed noKnown (k:=1000) 0 (by kernel_rfl) (by kernel_rfl)))))
def acO:Orc:=blkOrc 57 2 (fun b=>.slu b 0 9 0) (.row cod2 61 4)
theorem known_ac:Known Try.prog acO:=known_blk ac_gives
end
end Go.Proofs.Ytmankoikpadkpaa
