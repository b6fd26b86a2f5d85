import Derived.Test.YtmankoikpadkpaaRg
import Derived.Test.YtmankoikpadkpaaRw
import Derived.Test.YtmankoikpadkpaaC6
import Derived.Test.YtmankoikpadkpaaAw2
set_option linter.all false
/- The law of cases answers true for all plans and all lists -/
namespace Go.Proofs.Ytmankoikpadkpaa
open Go.ChangeShapes Go.WideShapes Go.ChangeAt Go.RowKit
set_option maxRecDepth 100000 in
theorem atlasCases_lifted (os:Os) (started:os.Started) (H:Type) (enc:TypeId×Value→H) :
  ReturnsInHanded {} Try.checked os 4 .any (Rows.atlasCasesSpec.pre6 enc Try.prog Try.f4 Rows.atlasCasesRow.domain false) (Rows.atlasCasesSpec.post enc Try.prog Try.f4 false true false false):=by
 refine returnsInHanded_of_change (C:=Try.checked) ownT started (by kernel_rfl) Try.func4
  (ChangeSpec.witness6 (enc:=enc) (C:=Try.checked) false ⟨#[],#[.agg #[.int .i64 0,.slice none 0 0],.slice none 0 0],[]⟩ 8 (by kernel_rfl) (by kernel_rfl) (by kernel_rfl) (by kernel_rfl)) ?_
 intro W base args ds gs before hval0 hW hcnd _
 have hval:∀ (j:Nat) t v,Try.f4.params[j]? = some t→args[j]? = some v→Value.okWide Try.prog W .any base t v:=hval0
 have hW':=hW
 obtain ⟨p,q,hA0,hV,rfl,hfz,hnd⟩:=hW
 obtain ⟨rfl,rfl⟩:=trodVars_none hV
 have hA:DataW.TrodAll enc Try.prog W 0 (fun _=>true) true Try.f4.params.toList args.toList ds p:=hA0
 have hAA:=hA
 rw [Try.params4] at hA hval
 obtain ⟨v0,vs0,d0,ds0,p0,q0,hargs,rfl,hp0,h0,r0⟩:=trodAll_cons hA
 obtain ⟨v1,vs1,d1,ds1,p1,q1,rfl,rfl,hp1,h1,r1⟩:=trodAll_cons r0
 obtain ⟨rfl,rfl,rfl⟩:=trodAll_nil r1
 obtain rfl:args = #[v0,v1]:=by cases args; simp_all
 clear hval0
 simp only [List.append_nil] at hW'
 obtain ⟨n,y,R,rfl,hden⟩:=open_plan Try.underlying24 rfl rfl Try.underlying3 (by kernel_rfl) Try.underlying22 (by kernel_rfl) (by kernel_rfl) Try.underlying29 (by kernel_rfl) (by kernel_rfl) (by kernel_rfl) (hval 0 _ v0 rfl rfl) h0
 obtain ⟨n1,vs1,hx1,hn1,hel1⟩:=open_list (m:=1) (Q:=IsK [some .i64]) Try.underlying29 (by kernel_rfl) (by decide) (fun fuel cs y _ hy=>flatF 5 (by kernel_rfl) hy) (hval 1 _ v1 rfl rfl) h1
 obtain ⟨L,rfl,rfl⟩:=ints_of n1 vs1 (by obtain ⟨_,_,_,_,e,_⟩:=hx1; exact e) hel1
 have hw:Ev.Known Try.prog (Ev.clsO wkC):=Ev.gives_closed AtlasWorks_known
 refine (callsG (cases_law hw n y v1 R L) W (xs:=[.agg #[.int .i64 n,y],v1]) (denL_cons (hden) (denL_cons (den_lst hx1 (Ev.plainL_den (cI_plain L))) (rfl)))).mono fun e W' ⟨he,hb⟩=>?_
 subst he
 exact ⟨_,rfl,rowG laidG hW' hAA hb Try.underlying4 (by kernel_rfl) (by decide +kernel) rfl rfl (fun _ _=>rfl)⟩
theorem atlasCases_proved:Rows.AtlasCasesSaid :=
 OpenClaim.holds_of_wide 4 Try.f4 rfl rfl rfl rfl rfl rfl rfl ⟨rfl,rfl,rfl,rfl,rfl⟩ rfl rfl rfl rfl rfl (by kernel_rfl) Try.func4 (by kernel_rfl)
  (of_decide_eq_true (by kernel_rfl)) (by unfold Func.isWrapper; first | (rw [if_pos (by decide +kernel)]; kernel_rfl) | (rw [if_neg (by decide +kernel)]; exact ⟨rfl,rfl⟩))
  (fun os started H enc _=>atlasCases_lifted os started H enc)
end Go.Proofs.Ytmankoikpadkpaa
