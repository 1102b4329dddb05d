import Derived.Test.YtclpbaokadfhhaaGreatDoorZu
import Derived.Test.YtclpbaokadfhhaaGreatDoorAg2
import Derived.Deep.Slices
set_option maxRecDepth 100000
namespace Go.Proofs.YtclpbaokadfhhaaGreatDoor
open Go.RowKit
open Go.RowKit Go.Deep Go.ChangeShapes Go.WideShapes
def jO:TypeDesc→Option (List (TypeId×Nat))
 | .struct fs=>some (fs.toList.map fun f=>(f.type,f.offset))
 |_=>none
def opFields:List (TypeId×Nat):= [(3,0),(3,1),(9,2),(9,3),(9,4),(9,5),(25,6)]
theorem uOp: ∃fs:Array Field,Tryz.prog.underlying 45=some (.struct fs)∧(fs.toList.map fun f=>(f.type,f.offset))=opFields:=by
 have h:(Tryz.prog.underlying 45).bind jO=some opFields:=by kernel_rfl
 cases hu:Tryz.prog.underlying 45 with
 |none=>rw[hu]at h;cases h
 |some d=>
  rw[hu]at h;cases d with
  |struct fs=>
   simp only[Option.bind_some,jO,Option.some.injEq]at h;exact⟨fs,rfl,h⟩
  |_=>cases h
theorem tH:Tryz.prog.cellsOf 3=1:=by kernel_rfl
theorem tG:Tryz.prog.cellsOf 9=1:=by kernel_rfl
theorem tj:Tryz.prog.cellsOf 25=1:=by kernel_rfl
theorem cOp:Tryz.prog.cellsOf 45=7:=by kernel_rfl
theorem bOp:Tryz.prog.bytesOf 45=104:=by kernel_rfl
theorem iZ{n:Int}(h:(Lit.int .i64 n).wf=true): -9223372036854775808≤n∧n≤9223372036854775807:=by
 simpa [Lit.wf,IntKind.min,IntKind.max,IntKind.signed,IntKind.bits]using h
def rO:OpV:={k:=0,n:=0,a:=⟨#[]⟩,b:=⟨#[]⟩,c:=⟨#[]⟩,d:=⟨#[]⟩,p:=none,ln:=0,cp:=0}
section
variable {H:Type}{enc:TypeId×Value→H}
theorem qr{W:World}{base fuel:Nat}{spare:Nat→Bool}{held:Bool}{cs:List Value}{x:DataW H×List MemPlace}(h:DataW.trod enc Tryz.prog W base spare held fuel 45 cs=some x):
  ∃(o:OpV) (d6:DataW H),cs=o.row∧(-9223372036854775808≤o.k∧o.k≤9223372036854775807)∧(-9223372036854775808≤o.n∧o.n≤9223372036854775807)∧
   x.1= .agg [.lit (.int .i64 o.k),.lit (.int .i64 o.n),.lit (.string o.a.data.toList),.lit (.string o.b.data.toList),.lit (.string o.c.data.toList),.lit (.string o.d.data.toList),d6]:=by
 obtain⟨fs,hu,hf⟩:=uOp;obtain⟨xs,m,_,hx,hl,hxl,hg⟩:=DataW.trod_struct hu h;rw[cOp]at hl;have hfl:fs.size=7:=by
  have:=congrArg List.length hf;simpa [opFields]using this
 rw[hfl]at hxl;have each: ∀(i:Nat) (t o:Nat),opFields[i]? =some (t,o)→DataW.trod enc Tryz.prog W base spare held m t ((cs.drop o).take (Tryz.prog.cellsOf t))=xs[i]? :=by
  intro i t o hi;rw[←hf,List.getElem?_map,Option.map_eq_some_iff]at hi;obtain⟨f,hfi,he⟩:=hi;simp only[Prod.mk.injEq]at he;obtain⟨rfl,rfl⟩:=he;exact hg i f (by simpa using hfi)
 match xs,hxl,cs,hl with
 | [y0,y1,y2,y3,y4,y5,y6],_,[c0,c1,c2,c3,c4,c5,c6],_=>
  have g0:=each 0 _ _ rfl;have g1:=each 1 _ _ rfl;have g2:=each 2 _ _ rfl;have g3:=each 3 _ _ rfl;have g4:=each 4 _ _ rfl;have g5:=each 5 _ _ rfl;have g6:=each 6 _ _ rfl;simp only[tH,List.drop_zero,List.drop_succ_cons,List.take_succ_cons,List.take_zero,List.getElem?_cons_zero,List.getElem?_cons_succ]at g0 g1;simp only[tG,List.drop_zero,List.drop_succ_cons,List.take_succ_cons,List.take_zero,List.getElem?_cons_zero,List.getElem?_cons_succ]at g2 g3 g4 g5;simp only[tj,List.drop_zero,List.drop_succ_cons,List.take_succ_cons,List.take_zero,List.getElem?_cons_zero,List.getElem?_cons_succ]at g6;obtain⟨k,e0,z0,w0⟩:=DataW.trod_int Tryz.underlying3 g0;obtain⟨n,e1,z1,w1⟩:=DataW.trod_int Tryz.underlying3 g1;obtain⟨a,e2,z2,_⟩:=DataW.trod_string Tryz.underlying9 g2;obtain⟨b,e3,z3,_⟩:=DataW.trod_string Tryz.underlying9 g3;obtain⟨c,e4,z4,_⟩:=DataW.trod_string Tryz.underlying9 g4;obtain⟨d,e5,z5,_⟩:=DataW.trod_string Tryz.underlying9 g5;obtain⟨p,ln,cp,e6⟩: ∃p ln cp,[c6]= [Value.slice p ln cp]:=by
   rcases open_slice Tryz.underlying25 g6 with ⟨h1,_⟩|⟨a',len,cap,_,_,_,_,h1,_⟩
   ·exact⟨_,_,_,h1⟩
   ·exact⟨_,_,_,h1⟩
  simp only[List.cons.injEq,and_true]at e0 e1 e2 e3 e4 e5 e6;subst e0 e1 e2 e3 e4 e5 e6;refine⟨{k:=k,n:=n,a:=a,b:=b,c:=c,d:=d,p:=p,ln:=ln,cp:=cp},y6.1,rfl,iZ w0,iZ w1,?_⟩;rw[hx];subst z0 z1 z2 z3 z4 z5;rfl
theorem ep{P:Program}{e:TypeId}{n:Nat}{d:DataW H}(hn:n∈d.weights P e): ∀{l:List (DataW H)},d∈l→n∈DataW.weightsAll P e l
 |x::l,h=>by
  simp only[DataW.weightsAll,List.mem_append];rcases List.mem_cons.1 h with rfl|h
  ·exact Or.inl hn
  ·exact Or.inr (ep hn h)
 | [],h=>by cases h
theorem dR{d0 d1 d2 d3 d4 d5 d6:DataW H}{i:Nat}{s:List UInt8}(hi:i=2∨i=3∨i=4∨i=5)(hs: [d0,d1,d2,d3,d4,d5,d6][i]? =some (.lit (.string s))):
  s.length∈(DataW.agg [d0,d1,d2,d3,d4,d5,d6]).weights Tryz.prog 45:=by
 obtain⟨fs,hu,hf⟩:=uOp;have ht:fs.toList.map (·.type)=opFields.map (·.1):=by rw[←hf,List.map_map];rfl
 rw[DataW.weights,hu];simp only[ht];refine DataW.weights_mem_each (j:=i) (t:=9) ?_ hs _ (by simp[DataW.weights]);rcases hi with rfl|rfl|rfl|rfl<;>rfl
theorem iO{w:World}{p:Addr}{v:Value}(h:w.cell? p=some v):p.block<w.heap.size∧p.spot=none:=by
 unfold World.cell? at h;cases hb:w.heap[p.block]? with
 |none=>rw[hb]at h;cases h
 |some o=>
  refine⟨(Array.getElem?_eq_some_iff.1 hb).1,?_⟩;rw[hb]at h;cases hs:p.spot with
  |none=>rfl
  |some k=>rw[hs]at h;cases o<;>simp at h
theorem kz{W:World}{base:Nat}{v:Value}{d:DataW H}{ps:List MemPlace}(hval:Value.okWide Tryz.prog W .any base 22 v)
  (h:DataW.Trod enc Tryz.prog W 0 (fun _=>true) true 22 v d ps) (hwt: ∀k∈d.weights Tryz.prog 22,k≤reachBytes):
  ∃(sp:Option Addr) (n cp:Nat) (O:Nat→OpV),v= .slice sp n cp∧n≤140737488355328∧(∀i,i<n→ ∃b off,sp=some ⟨b,off,none⟩∧b<W.heap.size∧W.rangeAt b (off+i*7) (O i).row)∧ ∀i,i<n→(O i).Ok:=by
 obtain⟨sp,n,cp,rfl⟩:=okWide_slice Tryz.underlying22 hval;obtain⟨fuel,hf⟩:=h;rcases open_slice Tryz.underlying22 hf with ⟨hcs,hx⟩|⟨a,len,cap,m,k,D,Pl,hcs,hb,hl,hm,hmm,hx,hcell⟩
 ·simp[Value.cells]at hcs;obtain⟨rfl,rfl,rfl⟩:=hcs;exact⟨none,0,0,fun _=>rO,rfl,by omega,fun i hi=>absurd hi (by omega),fun i hi=>absurd hi (by omega)⟩
 ·simp[Value.cells]at hcs;obtain⟨rfl,rfl,rfl⟩:=hcs;simp only[Prod.mk.injEq]at hx;obtain⟨rfl,rfl⟩:=hx;have hlm:n≤m:=by rw[hmm];split<;>omega
  rw[cOp]at hcell;have hn:n≤140737488355328:=by
   have h1:=hwt ((((List.range n).map D).length+((List.range (m - n)).map fun j=>D (n+j)).length)*Tryz.prog.bytesOf 45) (by
    rw[DataW.weights,Tryz.underlying22];exact List.mem_cons_self)
   rw[bOp]at h1;simp only[List.length_map,List.length_range]at h1;have h2:reachBytes=140737488351232:=rfl;omega
  have hsp:0<n→a.spot=none:=fun h0=>by
   obtain⟨cs',h1,h2⟩:=hcell 0 (by omega);obtain⟨_,hlen,hc⟩:=World.cells?_some h1;have h3:=hc 0 (by omega);rw[Nat.zero_mul,show (a.add 0).add 0=a from rfl,List.getElem?_eq_getElem (by omega)]at h3;exact(iO h3).2
  have hwD: ∀i,i<n→ ∀w,w∈(D i).weights Tryz.prog 45→w≤reachBytes:=fun i hi w hw=>by
   refine hwt w ?_;rw[DataW.weights,Tryz.underlying22];exact List.mem_cons_of_mem _ (List.mem_append_left _ (ep hw (List.mem_map.2 ⟨i,List.mem_range.2 hi,rfl⟩)))
  have each: ∀i,i<n→ ∃o:OpV,(∃b off,some a=some (⟨b,off,none⟩:Addr)∧b<W.heap.size∧W.rangeAt b (off+i*7) o.row)∧o.Ok:=fun i hi=>by
   obtain⟨cs',h1,h2⟩:=hcell i (by omega);obtain⟨_,hlen,hc⟩:=World.cells?_some h1;obtain⟨o,d6,rfl,hk,hno,hd⟩:=qr h2;have hs:=hsp (by omega);obtain⟨b,off,sp⟩:=a;simp only at hs;subst hs;have hr:W.rangeAt b (off+i*7) o.row:=fun j v hv=>by
    have hj:j<7:=(List.getElem?_eq_some_iff.1 hv).1;have h3:=hc j hj;rw[add_plain,add_plain,hv]at h3;exact h3
   refine⟨o,⟨b,off,rfl,(iO (hr 0 _ rfl)).1,hr⟩,?_⟩;have hw:=hwD i hi;rw[show D i=_ from hd]at hw;have hz:reachBytes=140737488351232:=rfl;have ha:=hw _ (dR (i:=2) (by omega) rfl);have hb:=hw _ (dR (i:=3) (by omega) rfl);have hc':=hw _ (dR (i:=4) (by omega) rfl);have hd':=hw _ (dR (i:=5) (by omega) rfl);rw[hz,show o.a.data.toList.length=o.a.size by simp]at ha;rw[hz,show o.b.data.toList.length=o.b.size by simp]at hb;rw[hz,show o.c.data.toList.length=o.c.size by simp]at hc';rw[hz,show o.d.data.toList.length=o.d.size by simp]at hd';exact⟨hk.1,hk.2,hno.1,hno.2,ha,hb,hc',hd'⟩
  obtain⟨O,hO⟩:= @choose_lt OpV ⟨rO⟩ n _ each;exact⟨some a,n,cp,O,rfl,hn,fun i hi=>(hO i hi).1,fun i hi=>(hO i hi).2⟩
end
end Go.Proofs.YtclpbaokadfhhaaGreatDoor
