import Derived.Test.YtclpbaokadfhhaaGreatDoorUg
import Derived.Deep.Slices
import Derived.Test.YtclpbaokadfhhaaGreatDoorZk
section
set_option maxRecDepth 100000
set_option maxHeartbeats 1000000
open Go.Value renaming string->Qa,int->Qc,tuple->Qd
open Go.Obj renaming cells->Qe
namespace Go.Proofs.YtclpbaokadfhhaaGreatDoor
open Go.RowKit
theorem Vo(s:Qb)(w:World)(b:s.size=32):
  Hid (Calls Tryz.prog 24 #[.slice (some ⟨w.heap.size,0,none⟩) 1 1] (w.alloc (Qe (Ss [s]) 9)) λe w'=>e=.returned (.bool false)/\w'=w.alloc (Qe (Ss [s]) 9)):=by
 have a:=nI s w oo;rw[show decide (¬(s.size=32))=false by simp[b]]at a;exact a
theorem acf(a L d SE:Qb)(j x:Int)(w:World)(p:a.size=32)
  (H:∀l:World,Below w.heap.size w l->Rw 32 #[Qa a,Qa L] l (Qd #[.agg #[Qa d,Qa SE,Qc .i64 j],Qc .i64 x])):
  Rw 17 #[Qa a,Qa L] w (Qd #[.agg #[Qa d,Qa SE,Qc .i64 j],Qc .i64 x]):=by
 have q:=DR;generalize o:none34=Z at q;have r:Z.size=3:=by rw[<-o];rfl
 have g:=Vo a (w.alloc (Qe Z 34)) p;rw[show (w.alloc (Qe Z 34)).heap.size=w.heap.size+1 by simp]at g;have b:Below w.heap.size w ((w.alloc (Qe Z 34)).alloc (Qe (Ss [a]) 9)):=(bR.alloc nR _).alloc ss _;have c:Blk ((w.alloc (Qe Z 34)).alloc (Qe (Ss [a]) 9)) w.heap.size Z 34:=(Blk.new _ _ _).alloc _;replace H:=Qh H;have f:(#[Qa d,Qa SE,Qc .i64 j]:Array Value).size=3:=rfl;have k:(#[Qa d,Qa SE,Qc .i64 j]:Array Value).all (·.oneCell')=true:=by simp[Value.oneCell']
 generalize (#[Qa d,Qa SE,Qc .i64 j]:Array Value)=h at H f k|-;go_enter Tryz.func17,Tryz.ntmps17;go_wp2_with fail;refine g.out.mono ?_;rintro e w' ⟨rfl,rfl⟩;go_wp2_with fail;generalize (w.alloc (Qe Z 34)).alloc (Qe (Ss [a]) 9)=s at c b|-;refine mo (H.out _ b) λt i=>?_;replace c:=c.keep i;replace b:=b.trans (i.mono b.size);have n:=c.row h;have m:=below_setRow b nR h;unfold Blk at c;go_wp2_with (first
  |(refine st t34 rfl rfl w.heap.size rfl rfl c f r k ?_))
 refine bodyPost_ret (bj rfl _ _ w.heap.size 34 _ (0,0) _ _ rfl rfl n Tryz.underlying34 rfl (by rw[f];exact Tryz.info34)) rfl ⟨rfl,m⟩
theorem DB(s r:Qb)(b:s.size=32)(a:r.size=32):cP s r=if nV s r=true then(cf s r,0)else (⟨#[]⟩,2):=by
 unfold cP nV cf;rw[if_pos ⟨b,a⟩];by_cases c:ix s.data.toList r.data.toList=aq 32
 .rw[if_pos c,if_neg (by rw[c];decide)]
 .rw[if_neg c,if_pos (by rw[Bool.not_eq_true',beq_eq_false_iff_ne];exact c)]
theorem Lb(K:Nat->BitVec 64)(r s p i:Qb)(c:s.size=32):(cV K r s p i).2=(cP s r).2/\((cP s r).2=0->r.size=32/\(cP s r).1=cf s r/\(cV K r s p i).1=rk K r s p i):=by
 by_cases a:r.size=32
 .rw[DB s r c a];unfold cV;rw[if_pos a];by_cases b:nV s r=true
  .rw[if_pos b,if_pos b];exact⟨rfl,λ_=>⟨a,rfl,rfl⟩⟩
  .rw[if_neg b,if_neg b];exact⟨rfl,λh=>absurd h dd⟩
 .unfold cV cP;rw[if_neg a,if_neg (λh=>a h.2)];exact⟨rfl,λh=>absurd h dd⟩
end Go.Proofs.YtclpbaokadfhhaaGreatDoor
end
section
set_option maxRecDepth 100000
open List renaming range->Qa,getElem?_cons_zero->Qc,getElem?_cons_succ->Qd,take_succ_cons->Qe,drop_succ_cons->Qf,take_zero->Qg,drop_zero->Qi,mem_cons_of_mem->Qj,mem_append_left->Qk,mem_cons_self->Qm,length_range->Qn,getElem?_map->Qo,length_map->Qp,mem_range->Qq,mem_map->Qt,map_map->Qx
open Go.Proofs.Tryz renaming prog->Qy,underlying9->Qz,underlying25->QA,underlying22->QB,underlying3->QC
open Go.DataW renaming weights->QD,trod_string->QE,trod->QF,weights_mem_each->QG,weightsAll->QH,trod_int->QI,agg->QJ
open Go renaming reachBytes->QL,DataW->QM,World->QN,MemPlace->QO,TypeId->QP
open Go.Value renaming string->QQ,slice->QR,cells->QT
namespace Go.Proofs.YtclpbaokadfhhaaGreatDoor
open Go.RowKit Go.Deep Go.ChangeShapes Go.WideShapes
theorem abI:Qy.cellsOf 9=1:=kr
theorem adk:Qy.bytesOf 9=16:=kr
section
variable {H:Type}{enc:TypeId×Value→H}
theorem wE{P:Program}{e:QP}{n:Nat}{d:QM H}(a:n∈d.weights P e):∀{l:List (QM H)},d∈l->n∈QH P e l
 |x::l,h=>by
  simp only[QH,List.mem_append];rcases List.mem_cons.1 h with rfl|h
  .exact Or.inl a
  .exact Or.inr (wE a h)
 | [],h=>by cases h
theorem yX{w:QN}{p:Addr}{v:Value}(h:w.cell? p=some v):p.block<w.heap.size/\p.spot=none:=by
 unfold World.cell? at h;cases a:w.heap[p.block]? with
 |none=>rw[a]at h;cases h
 |some o=>
  refine⟨(Array.getElem?_eq_some_iff.1 a).1,?_⟩;rw[a]at h;cases b:p.spot with
  |none=>rfl
  |some k=>rw[b]at h;cases o<;>simp at h
end
end Go.Proofs.YtclpbaokadfhhaaGreatDoor
namespace Go.Proofs.YtclpbaokadfhhaaGreatDoor
open Go.RowKit Go.Deep Go.ChangeShapes Go.WideShapes
structure LOk (W:QN) (o:OpV) (L:List ByteArray):Prop where
 n:o.ln=L.length
 l:L.length<=8796093021952
 c:∀k,k<L.length-> ∃b off,o.p=some ⟨b,off,none⟩/\b<W.heap.size/\W.cell? ⟨b,off+k,none⟩=some (QQ (aM L k))
 z:∀k,k<L.length->(aM L k).size<=140737488351232
def NH:TypeDesc->Option (List (QP×Nat))
 | .struct fs=>some (fs.toList.map λf=>(f.type,f.offset))
 |_=>none
def opFields:List (QP×Nat):=[(3,0),(3,1),(9,2),(9,3),(9,4),(9,5),(25,6)]
theorem uOp:∃fs:Array Field,Tryz.prog.underlying 45=some (.struct fs)/\(fs.toList.map λf=>(f.type,f.offset))=opFields:=by
 have h:(Tryz.prog.underlying 45).bind NH=some opFields:=kr
 cases hu:Tryz.prog.underlying 45 with
 |none=>rw[hu]at h;cases h
 |some d=>
  rw[hu]at h;cases d with
  |struct fs=>
   simp only[Option.bind_some,NH,Option.some.injEq]at h;exact⟨fs,rfl,h⟩
  |_=>cases h
theorem adj:Qy.cellsOf 3=1:=kr
theorem acu:Qy.cellsOf 25=1:=kr
theorem cOp:Qy.cellsOf 45=7:=kr
theorem bOp:Qy.bytesOf 45=104:=kr
theorem Ly{n:Int}(h:(Lit.int .i64 n).wf=true): -9223372036854775808<=n/\n<=9223372036854775807:=by
 simpa [Lit.wf,IntKind.min,IntKind.max,IntKind.signed,IntKind.bits]using h
def abt:OpV:={k:=0,n:=0,a:=⟨#[]⟩,b:=⟨#[]⟩,c:=⟨#[]⟩,d:=⟨#[]⟩,p:=none,ln:=0,cp:=0}
section
variable {H:Type}{enc:TypeId×Value→H}
theorem Vm{W:QN}{z fuel:Nat}{G:Nat->Bool}{B:Bool}{g:Option Addr}{n cp:Nat}{x:QM H×List QO}(h:QF enc Qy W z G B fuel 25 [QR g n cp]=some x)(w:∀k∈x.1.weights Qy 25,k<=QL):
  ∃L:List ByteArray,n=L.length/\L.length<=8796093021952/\(∀i,i<L.length-> ∃b off,g=some ⟨b,off,none⟩/\b<W.heap.size/\W.cell? ⟨b,off+i,none⟩=some (QQ (aM L i)))/\ ∀i,i<L.length->(aM L i).size<=140737488351232:=by
 have F:QL=140737488351232:=rfl;rcases open_slice1 QA abI h with ⟨e,y⟩|⟨a,Q,cap,m,k,V,D,J,e,K,s,N,E,y,l⟩
 .simp at e;obtain⟨rfl,rfl,rfl⟩:=e;exact⟨[],rfl,ss,λi c=>absurd c ss,λi c=>absurd c ss⟩
 .simp at e;obtain⟨rfl,rfl,rfl⟩:=e;subst y;have M:n<=m:=by rw[E];split<;>omega
  have P:n<=8796093021952:=by
   have q:=w ((((Qa n).map D).length+((Qa (m-n)).map λj=>D (n+j)).length)*Qy.bytesOf 9) (by
    rw[QD,QA];exact Qm)
   rw[adk]at q;simp only[Qp,Qn]at q;omega
  have A:∀i,i<n-> ∃o:ByteArray,(∃b off,some a=some (⟨b,off,none⟩:Addr)/\b<W.heap.size/\W.cell? ⟨b,off+i,none⟩=some (QQ o))/\o.size<=140737488351232:=λi c=>by
   obtain⟨f,h2⟩:=l i oo;have u:=(yX (l 0 oo).1).2;obtain⟨b,off,g⟩:=a;simp only[Addr.add]at u;subst u;obtain⟨o,p,I,_⟩:=QE Qz h2;simp only[List.cons.injEq,and_true]at p;rw[p,add_plain]at f;refine⟨o,⟨b,off,rfl,(yX f).1,f⟩,?_⟩;have v:=w o.data.toList.length (by
    rw[QD,QA];refine Qj _ (Qk _ (wE (d:=D i) ?_ (Qt.2 ⟨i,Qq.2 c,rfl⟩)));rw[show D i=_ from congrArg Prod.fst I];simp[QD])
   rw[F,show o.data.toList.length=o.size by simp]at v;exact v
  obtain⟨O,r⟩:= @choose_lt ByteArray ⟨⟨#[]⟩⟩ n _ A;have s:((Qa n).map O).length=n:=ss
  have t:∀k,k<n->aM ((Qa n).map O) k=O k:=λk C=>by
   unfold aM;rw[List.getD_eq_getElem?_getD,Qo,List.getElem?_range C];rfl
  refine⟨(Qa n).map O,s.symm,oo,λi c=>?_,λi c=>?_⟩
  .rw[t i oo];exact(r i oo).1
  .rw[t i oo];exact(r i oo).2
theorem Xt{W:World}{base fuel:Nat}{spare:Nat->Bool}{held:Bool}{cs:List Value}{x:DataW H×List MemPlace}(h:DataW.trod enc Tryz.prog W base spare held fuel 45 cs=some x):
  ∃(o:OpV) (d6:DataW H),cs=o.row/\(-9223372036854775808<=o.k/\o.k<=9223372036854775807)/\(-9223372036854775808<=o.n/\o.n<=9223372036854775807)/\
   x.1=.agg [.lit (.int .i64 o.k),.lit (.int .i64 o.n),.lit (.string o.a.data.toList),.lit (.string o.b.data.toList),.lit (.string o.c.data.toList),.lit (.string o.d.data.toList),d6]/\
   ∃m pl,DataW.trod enc Tryz.prog W base spare held m 25 [.slice o.p o.ln o.cp]=some (d6,pl):=by
 obtain⟨fs,hu,hf⟩:=uOp;obtain⟨xs,m,_,hx,hl,hxl,hg⟩:=DataW.trod_struct hu h;rw[cOp]at hl;have hfl:fs.size=7:=by
  have:=congrArg List.length hf;simpa [opFields]using this
 rw[hfl]at hxl;have each:∀(i:Nat) (t o:Nat),opFields[i]? =some (t,o)->DataW.trod enc Tryz.prog W base spare held m t ((cs.drop o).take (Tryz.prog.cellsOf t))=xs[i]? :=by
  intro i t o hi;rw[<-hf,List.getElem?_map,Option.map_eq_some_iff]at hi;obtain⟨f,hfi,he⟩:=hi;simp only[Prod.mk.injEq]at he;obtain⟨rfl,rfl⟩:=he;exact hg i f (by simpa using hfi)
 match xs,hxl,cs,hl with
 | [y0,y1,y2,y3,y4,y5,y6],_,[c0,c1,c2,c3,c4,c5,c6],_=>
  have g0:=each 0 _ _ rfl;have g1:=each 1 _ _ rfl;have g2:=each 2 _ _ rfl;have g3:=each 3 _ _ rfl;have g4:=each 4 _ _ rfl;have g5:=each 5 _ _ rfl;have g6:=each 6 _ _ rfl;simp only[adj,List.drop_zero,List.drop_succ_cons,List.take_succ_cons,List.take_zero,List.getElem?_cons_zero,List.getElem?_cons_succ]at g0 g1;simp only[abI,List.drop_zero,List.drop_succ_cons,List.take_succ_cons,List.take_zero,List.getElem?_cons_zero,List.getElem?_cons_succ]at g2 g3 g4 g5;simp only[acu,List.drop_zero,List.drop_succ_cons,List.take_succ_cons,List.take_zero,List.getElem?_cons_zero,List.getElem?_cons_succ]at g6;obtain⟨k,e0,z0,w0⟩:=DataW.trod_int Tryz.underlying3 g0;obtain⟨n,e1,z1,w1⟩:=DataW.trod_int Tryz.underlying3 g1;obtain⟨a,e2,z2,_⟩:=DataW.trod_string Tryz.underlying9 g2;obtain⟨b,e3,z3,_⟩:=DataW.trod_string Tryz.underlying9 g3;obtain⟨c,e4,z4,_⟩:=DataW.trod_string Tryz.underlying9 g4;obtain⟨d,e5,z5,_⟩:=DataW.trod_string Tryz.underlying9 g5;obtain⟨p,ln,cp,e6⟩:∃p ln cp,[c6]=[Value.slice p ln cp]:=by
   rcases open_slice Tryz.underlying25 g6 with ⟨h1,_⟩|⟨a',len,cap,_,_,_,_,h1,_⟩
   .exact⟨_,_,_,h1⟩
   .exact⟨_,_,_,h1⟩
  simp only[List.cons.injEq,and_true]at e0 e1 e2 e3 e4 e5 e6;subst e0 e1 e2 e3 e4 e5 e6;refine⟨{k:=k,n:=n,a:=a,b:=b,c:=c,d:=d,p:=p,ln:=ln,cp:=cp},y6.1,rfl,Ly w0,Ly w1,?_,?_⟩
  .rw[hx];subst z0 z1 z2 z3 z4 z5;rfl
  .exact⟨_,_,g6⟩
theorem zW{d0 d1 d2 d3 d4 d5 d6:DataW H}{i:Nat}{s:List UInt8}(hi:i=2\/i=3\/i=4\/i=5)(hs: [d0,d1,d2,d3,d4,d5,d6][i]? =some (.lit (.string s))):
  s.length∈(DataW.agg [d0,d1,d2,d3,d4,d5,d6]).weights Tryz.prog 45:=by
 obtain⟨fs,hu,hf⟩:=uOp;have ht:fs.toList.map (·.type)=opFields.map (·.1):=by rw[<-hf,List.map_map];rfl
 rw[DataW.weights,hu];simp only[ht];refine DataW.weights_mem_each (j:=i) (t:=9) ?_ hs _ (by simp[DataW.weights]);rcases hi with rfl|rfl|rfl|rfl<;>rfl
theorem Ti{b c d e f g a:QM H}{k:Nat}(l:k∈a.weights Qy 25):
  k∈(QJ [b,c,d,e,f,g,a]).weights Qy 45:=by
 obtain⟨h,m,i⟩:=uOp;have ht:h.toList.map (·.type)=opFields.map (·.1):=by rw[<-i,Qx];rfl
 rw[QD,m];simp only[ht];exact QG (j:=6) (t:=25) rfl rfl _ l
theorem Nr{W:QN}{J:Nat}{v:Value}{d:QM H}{ps:List QO}(ag:Value.okWide Qy W .any J 22 v)
  (h:DataW.Trod enc Qy W 0 (λ_=>true) true 22 v d ps) (I:∀k∈d.weights Qy 22,k<=QL):
  ∃(r:Option Addr) (n cp:Nat) (O:Nat->OpV),v=QR r n cp/\n<=1400000000000/\(∀i,i<n-> ∃b off,r=some ⟨b,off,none⟩/\b<W.heap.size/\W.rangeAt b (off+i*7) (O i).row)/\ ∀i,i<n->(O i).Ok/\ ∃L,LOk W (O i) L:=by
 obtain⟨r,n,cp,rfl⟩:=okWide_slice QB ag;obtain⟨fuel,T⟩:=h;rcases open_slice QB T with ⟨l,x⟩|⟨a,ao,cap,m,k,D,Pl,l,t,hl,hm,ab,x,s⟩
 .simp[QT]at l;obtain⟨rfl,rfl,rfl⟩:=l;exact⟨none,0,0,λ_=>abt,rfl,oo,λi c=>absurd c oo,λi c=>absurd c oo⟩
 .simp[QT]at l;obtain⟨rfl,rfl,rfl⟩:=l;simp only[Prod.mk.injEq]at x;obtain⟨rfl,rfl⟩:=x;have an:n<=m:=by rw[ab];split<;>omega
  rw[cOp]at s;have hn:n<=1400000000000:=by
   have f:=I ((((Qa n).map D).length+((Qa (m-n)).map λj=>D (n+j)).length)*Qy.bytesOf 45) (by
    rw[QD,QB];exact Qm)
   rw[bOp]at f;simp only[Qp,Qn]at f;have h2:QL=140737488351232:=rfl;omega
  have ad:0<n->a.spot=none:=λh0=>by
   obtain⟨cs',f,h2⟩:=s 0 oo;obtain⟨_,Z,u⟩:=World.cells?_some f;have g:=u 0 oo;rw[Nat.zero_mul,show (a.add 0).add 0=a from rfl,List.getElem?_eq_getElem oo]at g;exact(yX g).2
  have ah:∀i,i<n-> ∀w,w∈(D i).weights Qy 45->w<=QL:=λi c w e=>by
   refine I w ?_;rw[QD,QB];exact Qj _ (Qk _ (wE e (Qt.2 ⟨i,Qq.2 c,rfl⟩)))
  have Q:∀i,i<n-> ∃o:OpV,(∃b off,some a=some (⟨b,off,none⟩:Addr)/\b<W.heap.size/\W.rangeAt b (off+i*7) o.row)/\o.Ok/\ ∃L,LOk W o L:=λi c=>by
   obtain⟨cs',f,h2⟩:=s i oo;obtain⟨_,Z,u⟩:=World.cells?_some f;obtain⟨o,d6,rfl,p,C,S,m6,ap,R⟩:=Xt h2;have F:=ad oo;obtain⟨b,off,r⟩:=a;simp only at F;subst F;have E:W.rangeAt b (off+i*7) o.row:=λj v G=>by
    have X:j<7:=(List.getElem?_eq_some_iff.1 G).1;have g:=u j X;rw[add_plain,add_plain,G]at g;exact g
   refine⟨o,⟨b,off,rfl,(yX (E 0 _ rfl)).1,E⟩,?_⟩;have e:=ah i c;rw[show D i=_ from S]at e;have q:QL=140737488351232:=rfl;have z:=e _ (zW (i:=2) oo rfl);have t:=e _ (zW (i:=3) oo rfl);have A:=e _ (zW (i:=4) oo rfl);have B:=e _ (zW (i:=5) oo rfl);rw[q,show o.a.data.toList.length=o.a.size by simp]at z;rw[q,show o.b.data.toList.length=o.b.size by simp]at t;rw[q,show o.c.data.toList.length=o.c.size by simp]at A;rw[q,show o.d.data.toList.length=o.d.size by simp]at B;refine⟨⟨p.1,p.2,C.1,C.2,z,t,A,B⟩,?_⟩;obtain⟨L,K,M,N,P⟩:=Vm R (λk p=>e _ (Ti p));exact⟨L,K,M,N,P⟩
  obtain⟨O,y⟩:= @choose_lt OpV ⟨abt⟩ n _ Q;exact⟨some a,n,cp,O,rfl,hn,λi c=>(y i c).1,λi c=>(y i c).2⟩
end
end Go.Proofs.YtclpbaokadfhhaaGreatDoor
end
