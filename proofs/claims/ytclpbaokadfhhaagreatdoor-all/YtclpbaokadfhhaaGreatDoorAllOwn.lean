import Derived.Test.YtclpbaokadfhhaaGreatDoorRows
import Derived.Test.YtclpbaokadfhhaaGreatDoorTie
import Derived.Test.YtclpbaokadfhhaaGreatDoorCards
import Derived.Test.YtclpbaokadfhhaaGreatDoorUo
import Derived.ProofKit
import Derived.Carry
import Derived.Lay
import Derived.LaidOnce
import Derived.OpenShut
import Derived.Shelf.Vars
import Derived.Stop.Joined
import Derived.Lib.LaidTab
import Derived.SevenTiedAt
/- For every input the call missivelaw.All returns true, and its argument reads afterwards as it read before; the conditions: the row's own (the listed package-level variables start as the program's text and Go's library lay them, which the card ties; each text, and the script itself, takes at most 2^47 - 4096 bytes). -/
set_option maxRecDepth 100000
open Go.Proofs.Tryz renaming prog->Qa,f7->Qc,func7->Qd,params7->Qe
open Go renaming World->Qf,laidMetH->Qg,reachBytes->Qi,ReturnsInHanded->Qj,sizedMet->Qk,Value->Qm,ChangeSpec->Qn
open Go.OpenSpec renaming ofChange->Qo
open Option.some renaming inj->Qp
namespace Go.Proofs.YtclpbaokadfhhaaGreatDoor
open Go.ChangeShapes Go.WideShapes Go.ChangeAt Go.RowKit Go.Deep
theorem own:ownKnob Qa.godebug=none:=kr
theorem ZQ:laidOutB Qa=true:=kr
theorem Vy : Qa.globalNamed "missive/digest.cubeRoots" = some 0 := by kernel_rfl
theorem abf:(Qa.globals[0]?).map (·.type)=some 146:=kr
theorem act:Qa.cellsOf 67=1:=kr
theorem abH:Qa.cellsOf 146=80:=kr
theorem ZP{H:Type}:(Rows.laid_missive_digest_cubeRoots:DataW H)=Lib.tabData .u64 (Sha_roots.map λn:Nat=>(n:Int)):=kr
abbrev Ft : List (String × DataW Unit) := [("missive/digest.cubeRoots", Rows.laid_missive_digest_cubeRoots), ("unicode/utf8.acceptRanges", Rows.laid_unicode_utf8_acceptRanges), ("unicode/utf8.first", Rows.laid_unicode_utf8_first)]
theorem ZI{W:Qf}(h:Qg Qa Ft W):Tab ai W:=by
 rw[MakeChecks.laidMetH_plain _ _ _ kr]at h;unfold Ft at h;rw[ZP]at h;have b:=Lib.tabIs_of_head Vy abf Tryz.underlying146 Tryz.underlying67 act abH h;intro i a;rw[b.cell Vy i (by rw[List.length_map];exact a),aaq i a]
theorem abe{W:Qf}(h:Tab ai W):0<W.heap.size:=(yX (h 0 dd)).1
theorem U0{H:Type}{enc:TypeId×Qm->H}{a:Assume}{C:Checked}{os:Os}{f:FuncId}{b:Func}{s:Qn}{n:List PathCond}{d o p m:Bool}{X:Qf->Array Qm->Prop}
  (z:∀(w w':Qf) (args:Array Qm),w.heap=w'.heap->X w args->X w' args)
  (O:ownKnob C.prog.godebug=none) (r:os.Started) (N:C.prog.inits.idxOf? f=none) (B:C.prog.funcs[f]? =some b)
  (P:∃(w:Qf) (c:Tape) (i:Input),w.os=os/\(w.forCall c i).Shaped C.prog/\i.vars=[]/\Input.okWide C.prog (w.forCall c i) .any w.heap.size f i/\
   ((s.pre enc C.prog b n d (w.forCall c i).memory i.args/\X (w.forCall c i).memory i.args)/\Qk enc C.prog b (Qo s) d (w.forCall c i).memory i.args)/\a.holds C.prog (lone (Frame.enter C.prog f i.args .normal) [] (w.forCall c i)))
  (x:∀(W:Qf) (u:Nat) (args:Array Qm) (g h:List (DataW H)) (k:List MemPlace),
   (∀(j:Nat) t v,b.params[j]? =some t->args[j]? =some v->Value.okWide C.prog W .any u t v)->
   DataW.Whole enc C.prog b.params.toList s.vars d W args.toList g h k->
   (DataW.weightsEach C.prog (b.params.toList++s.plain.varTypes C.prog) (g++h)).all (· <=Qi)=true->X W args->W.ShapedOpen C.prog->
   Calls C.prog f args W λe l=> ∃v,e=.returned v/\s.post enc C.prog b d o p m W args v l):
  Qj a C os f .any (λw args=>(s.pre enc C.prog b n d w args/\X w args)/\Qk enc C.prog b (Qo s) d w args) (s.post enc C.prog b d o p m):=by
 refine returnsInHanded_of_calls O r N P ?_;intro w c i _ I _ E G _;obtain⟨_,_,_,y,D,_,_,_,_,J⟩:=E;obtain rfl:y=b:=Qp (D.symm.trans B);obtain⟨⟨⟨g,h,k,q,_⟩,L⟩,M⟩:=G;have K:=DataW.Whole.of_heap (w':=w.forCall c i) (by rfl) q;refine(x (w.forCall c i) w.heap.size i.args g h k J K (M.weights q) (z _ _ _ (by rfl) L) I).mono λe l ⟨v,A,F⟩=>?_
 subst A;exact ChangeSpec.post_blind F
theorem PH{W:Qf}(h:W.ShapedOpen Qa):∃m,W.cell? ⟨1,0,none⟩=some (.int .i64 m):=
 cell_of_shapedOpen_int (t:=3) (zero:=#[.int .i64 0]) h dk kr rfl kr kr Tryz.underlying3
theorem aby(os:Os)(s:os.Started)(H:Type)(enc:TypeId×Qm->H):
  Qj {} Tryz.checked os 7 .any (λw args=>(Rows.allSpec.pre enc Qa Qc [] false w args/\Qg Qa Ft w)/\Qk enc Qa Qc (Qo Rows.allSpec) false w args)
   (Rows.allSpec.post enc Qa Qc false true false false):=by
 refine U0 (C:=Tryz.checked) (X:=λw _=>Qg Qa Ft w) (λ_ _ _ G h=>h.of_heap G) own s kr Qd
  (Qn.witness_shaped (enc:=enc) (C:=Tryz.checked) (os:=os) (X:=λw _=>Qg Qa Ft w) false (Qf.laidAll Qa os Ft) #[.slice none 0 0] 8 (Qf.laidAll_os _ _ _)
   (Qf.shaped_of_ZipB kr kr) kr kr kr
   (by rw[MakeChecks.laidMetH_plain _ _ _ kr];exact laidMet_laidAll _ kr kr)) ?_
 intro W u args b z ab o g P B N;have l:∀(j:Nat) t v,Qc.params[j]? =some t->args[j]? =some v->Value.okWide Qa W .any u t v:=o
 have a:=g;obtain⟨p,q,d,E,rfl,ad,ag⟩:=g;have c:DataW.TrodAll enc Qa W 0 (λ_=>true) true Qc.params.toList args.toList b p:=d;have r:(DataW.weightsEach Qa (Qc.params.toList++ []) (b++z)).all (· <=Qi)=true:=P;rw[Qe]at c l r;obtain⟨T,y,rfl,rfl,h0⟩:=trodAll_one c;obtain⟨rfl,rfl⟩:=trodVars_none E;have J:∀x∈p,x.block<W.heap.size:=λx R=>by simpa using a.lt x (List.mem_append_left _ R)
 have Q:∀k∈y.weights Qa 22,k<=Qi:=λk I=>by
  have A:=List.all_eq_true.1 r k (DataW.weights_mem_each (j:=0) (t:=22) rfl rfl k I);simpa using A
 obtain⟨S,n,cp,O,rfl,L,M,D⟩:=Nr (l 0 22 T rfl rfl) h0 Q;clear d o;simp only[List.append_nil]at a;have f:=ZI B;obtain⟨m,K⟩:=PH N;refine(acM S n cp O W m L M D f (abe f) K).mono λe Z ⟨F,i⟩=>?_
 subst F;refine⟨_,rfl,_,_,_,[],p,[],a,?_,?_,rfl,i.frame _,λh=>by cases h⟩
 .exact trodAll_mk1 (shut_bool Tryz.underlying4 _)
 .exact trodAll_mk1 (Below.trod ZQ kr (of_decide_eq_true kr) h0 i J)
theorem VL:Rows.AllSaid:=
 OpenClaim.holds_of_wide 7 Qc rfl rfl rfl rfl rfl rfl rfl ⟨rfl,rfl,rfl,rfl,rfl⟩ rfl rfl rfl rfl rfl kr Qd kr
  (of_decide_eq_true kr) (by unfold Func.isWrapper;first|(rw[if_pos dk];kernel_rfl)|(rw[if_neg dk];exact⟨rfl,rfl⟩))
  (λos a H enc _=>aby os a H enc)
theorem all_card:Rows.AllCardSaid:=
 Claim7.holds_tied_plain_at .later [] [.data,.data,.pinned] true (true,Rows.allCard.stood.harness.2) true
  VL (fun _ h=>by cases h) kr (fun _ h=>by cases h) all_row_tie rfl ⟨rfl,rfl⟩ kr rfl
  (fun f fn hf hfn=>by
   obtain rfl : f = 7 := Qp ((show Qa.funcNamed "missive/missivelaw.All" = some 7 by kernel_rfl).symm.trans hf) |>.symm
   obtain rfl:fn=Qc:=(Qp (Qd.symm.trans hfn)).symm;exact⟨kr,fun j t ht=>by
    rw[Qe]at ht;have hm:t∈ [22]:=by simpa using Array.mem_of_getElem? ht
    have adI:([22].all fun u=> !Qa.wantsStandIn u)=true:=kr
    exact(show Qa.wantsStandIn t=false by simpa using List.all_eq_true.1 adI t hm)⟩)
  kr
end Go.Proofs.YtclpbaokadfhhaaGreatDoor
