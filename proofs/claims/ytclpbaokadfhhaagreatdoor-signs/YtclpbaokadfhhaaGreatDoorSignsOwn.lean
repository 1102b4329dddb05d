/- For every input the call missivelaw.Signs returns true, and its argument reads afterwards as it read before; the conditions: the row's own (the listed package-level variables start as the program's text and Go's library lay them, which the card ties; each text, and the script itself, takes at most 2^47 - 4096 bytes). -/
import Derived.Test.YtclpbaokadfhhaaGreatDoorRows
import Derived.Test.YtclpbaokadfhhaaGreatDoorTie
import Derived.Test.YtclpbaokadfhhaaGreatDoorCards
import Derived.Test.YtclpbaokadfhhaaGreatDoorZa
import Derived.Test.YtclpbaokadfhhaaGreatDoorYi
import Derived.Test.YtclpbaokadfhhaaGreatDoorXq
import Derived.ProofKit
import Derived.Carry
import Derived.Lay
import Derived.LaidOnce
import Derived.OpenShut
import Derived.Stop.Joined
import Derived.Lib.LaidTab
import Derived.SevenTiedAt
set_option maxRecDepth 100000
namespace Go.Proofs.YtclpbaokadfhhaaGreatDoor
open Go.ChangeShapes Go.WideShapes Go.ChangeAt Go.RowKit Go.Deep
theorem own:ownKnob Tryz.prog.godebug=none:=by kernel_rfl
theorem qH:laidOutB Tryz.prog=true:=by kernel_rfl
theorem nB : Tryz.prog.globalNamed "missive/digest.cubeRoots" = some 0 := by kernel_rfl
theorem ro:(Tryz.prog.globals[0]?).map (·.type)=some 146:=by kernel_rfl
theorem ti:Tryz.prog.cellsOf 67=1:=by kernel_rfl
theorem r8:Tryz.prog.cellsOf 146=80:=by kernel_rfl
theorem qG{H:Type}:(Rows.laid_missive_digest_cubeRoots:DataW H)=Lib.tabData .u64 (Sha.roots.map fun n:Nat=>(n:Int)):=by kernel_rfl
abbrev fL : List (String × DataW Unit) := [("missive/digest.cubeRoots", Rows.laid_missive_digest_cubeRoots), ("unicode/utf8.acceptRanges", Rows.laid_unicode_utf8_acceptRanges), ("unicode/utf8.first", Rows.laid_unicode_utf8_first)]
theorem qs{W:World}(h:laidMetH Tryz.prog fL W):Tab Sha.K W:=by
 rw[MakeChecks.laidMetH_plain _ _ _ (by kernel_rfl)]at h;unfold fL at h;rw[qG]at h;have hT:=Lib.tabIs_of_head nB ro Tryz.underlying146 Tryz.underlying67 ti r8 h;intro i hi;rw[hT.cell nB i (by rw[List.length_map];exact hi),Sha.K_U i hi]
theorem rn{W:World}(h:Tab Sha.K W):0<W.heap.size:=(iO (h 0 (by decide))).1
theorem rV(os:Os)(started:os.Started)(H:Type)(enc:TypeId×Value→H):
  ReturnsInHanded {} Tryz.checked os 6 .any (fun w args=>(Rows.signsSpec.pre enc Tryz.prog Tryz.f6 [] false w args∧laidMetH Tryz.prog fL w)∧sizedMet enc Tryz.prog Tryz.f6 (OpenSpec.ofChange Rows.signsSpec) false w args)
   (Rows.signsSpec.post enc Tryz.prog Tryz.f6 false true false false):=by
 refine returnsInHanded_of_change_and (C:=Tryz.checked) (X:=fun w _=>laidMetH Tryz.prog fL w) (fun _ _ _ hh h=>h.of_heap hh) own started (by kernel_rfl) Tryz.func6
  (ChangeSpec.witness_shaped (enc:=enc) (C:=Tryz.checked) (os:=os) (X:=fun w _=>laidMetH Tryz.prog fL w) false (World.laidAll Tryz.prog os fL) #[.slice none 0 0] 8 (World.laidAll_os _ _ _)
   (World.shaped_of_ZipB (by kernel_rfl) (by kernel_rfl)) (by kernel_rfl) (by kernel_rfl) (by kernel_rfl)
   (by rw[MakeChecks.laidMetH_plain _ _ _ (by kernel_rfl)];exact laidMet_laidAll _ (by kernel_rfl) (by kernel_rfl))) ?_
 intro W base args ds gs before hval0 hW _ hwt hL _;have hval: ∀(j:Nat) t v,Tryz.f6.params[j]? =some t→args[j]? =some v→Value.okWide Tryz.prog W .any base t v:=hval0
 have hW':=hW;obtain⟨p,q,hA0,hV,rfl,hfz,hnd⟩:=hW;have hA:DataW.TrodAll enc Tryz.prog W 0 (fun _=>true) true Tryz.f6.params.toList args.toList ds p:=hA0;have hwt':(DataW.weightsEach Tryz.prog (Tryz.f6.params.toList++ []) (ds++gs)).all (· ≤reachBytes)=true:=hwt;rw[Tryz.params6]at hA hval hwt';obtain⟨v0,d0,rfl,rfl,h0⟩:=trodAll_one hA;obtain⟨rfl,rfl⟩:=trodVars_none hV;have hlt: ∀x∈p,x.block<W.heap.size:=fun x hx=>by simpa using hW'.lt x (List.mem_append_left _ hx)
 have hwts: ∀k∈d0.weights Tryz.prog 22,k≤reachBytes:=fun k hk=>by
  have h1:=List.all_eq_true.1 hwt' k (DataW.weights_mem_each (j:=0) (t:=22) rfl rfl k hk);simpa using h1
 obtain⟨sp,n,cp,O,rfl,hn,hs,hO⟩:=kz (hval 0 22 v0 rfl rfl) h0 hwts;clear hA0 hval0;simp only[List.append_nil]at hW';have hT:=qs hL;refine(re sp n cp O W hn hs hO hT (rn hT)).mono fun e W' ⟨he,hb⟩=> ?_
 subst he;refine⟨_,rfl,_,_,_,[],p,[],hW',?_,?_,rfl,hb.frame _,fun h=>by cases h⟩
 ·exact trodAll_mk1 (shut_bool Tryz.underlying4 _)
 ·exact trodAll_mk1 (Below.trod qH (by kernel_rfl) (of_decide_eq_true (by kernel_rfl)) h0 hb hlt)
theorem ku:Rows.SignsSaid:=
 OpenClaim.holds_of_wide 6 Tryz.f6 rfl rfl rfl rfl rfl rfl rfl ⟨rfl,rfl,rfl,rfl,rfl⟩ rfl rfl rfl rfl rfl (by kernel_rfl) Tryz.func6 (by kernel_rfl)
  (of_decide_eq_true (by kernel_rfl)) (by unfold Func.isWrapper;first|(rw[if_pos (by decide+kernel)];kernel_rfl)|(rw[if_neg (by decide+kernel)];exact⟨rfl,rfl⟩))
  (fun os started H enc _=>rV os started H enc)
theorem signs_card:Rows.SignsCardSaid:=
 Claim7.holds_tied_plain_at .later [] [.data,.data,.pinned] true (true,Rows.signsCard.stood.harness.2) true
  ku (fun _ h=>by cases h) (by kernel_rfl) (fun _ h=>by cases h) signs_row_tie rfl ⟨rfl,rfl⟩ (by kernel_rfl) rfl
  (fun f fn hf hfn=>by
   obtain rfl : f = 6 := Option.some.inj ((show Tryz.prog.funcNamed "missive/missivelaw.Signs" = some 6 by kernel_rfl).symm.trans hf) |>.symm
   obtain rfl:fn=Tryz.f6:=(Option.some.inj (Tryz.func6.symm.trans hfn)).symm;exact⟨by kernel_rfl,fun j t ht=>by
    rw[Tryz.params6]at ht;have hm:t∈ [22]:=by simpa using Array.mem_of_getElem? ht
    have B5:([22].all fun u=> !Tryz.prog.wantsStandIn u)=true:=by kernel_rfl
    exact(show Tryz.prog.wantsStandIn t=false by simpa using List.all_eq_true.1 B5 t hm)⟩)
  (by kernel_rfl)
end Go.Proofs.YtclpbaokadfhhaaGreatDoor
