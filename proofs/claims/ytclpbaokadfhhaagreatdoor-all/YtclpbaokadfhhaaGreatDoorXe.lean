import Derived.Test.YtclpbaokadfhhaaGreatDoorFi
set_option maxRecDepth 100000
set_option maxHeartbeats 20000000
open List renaming not_mem_nil->Qa,mem_cons->Qc,cons_append->Qd,nil_append->Qe,foldl_cons->Qf,foldl_nil->Qg,map_cons->Qi,length_append->Qj,map_nil->Qk
open Go.Value renaming agg->Qm,int->Qn
open Go.Proofs.Tryz renaming underlying69->Qo,prog->Qp,underlying115->Qq
open Go.Proofs.YtclpbaokadfhhaaGreatDoor.Tryz renaming infoF5->Qt
open Go renaming World->Qx,wpList_store_mid->Qy,setRow_setRow->Qz,Value->QA,Program->QB,Operand->QC,wpList->QD,execOp->QE,TypeId->QF,bodyPost_ret->QG
open Go.IntKind renaming u64->QH
open Go.Obj renaming cells->QI
open Go.Instr renaming build->QJ
namespace Go.Proofs.YtclpbaokadfhhaaGreatDoor
open Go.RowKit
def lad(A B C D:List (BitVec 64)):List (BitVec 64):=A++B++C++D
theorem qX{A B C D:Ql}(a:A.length=5)(b:B.length=5)(c:C.length=5)(d:D.length=5):(lad A B C D).length=20:=by simp[lad,a,b,c,d]
theorem Cg{A B C D:Ql}(a:A.length=5)(b:B.length=5)(c:C.length=5)(d:D.length=5):(Ws (lad A B C D)).size=20:=by rw[dA,qX a b c d]
theorem Tryz.infoL20:(Qp.info? 115).map (·.size)=some 20:=kr
theorem Xe:Ty 115 20:=⟨_,Qq,rfl,Tryz.infoL20⟩
theorem Ce{w:Qx}{b t:Nat}{X Y Z:Ql}(h:Blk w b (Ws (X++Y++Z)) t):w.rangeAt b X.length (Ws Y).toList:=by
 intro j v a;rw[h.cell];have c:j<Y.length:=by have:=(List.getElem?_eq_some_iff.1 a).1;simpa [Ws]using this
 rw[Array.getElem?_toList]at a;rw[N6]at a|-;rw[List.append_assoc,List.getElem?_append_right oo,Nat.add_sub_cancel_left,List.getElem?_append_left c];exact a
theorem Tn{w:Qx}{b t:Nat}{A B C D:Ql}(h:Blk w b (Ws (lad A B C D)) t):w.rangeAt b 0 (Ws A).toList:=by
 have:lad A B C D=[]++A++(B++C++D):=by simp[lad]
 rw[this]at h;exact Ce h
theorem Tm{w:Qx}{b t:Nat}{A B C D:Ql}(h:Blk w b (Ws (lad A B C D)) t)(a:A.length=5):w.rangeAt b 5 (Ws B).toList:=by
 have:lad A B C D=A++B++(C++D):=by simp[lad]
 rw[this]at h;have:=Ce h;rw[a]at this;exact this
theorem XE{w:Qx}{b t:Nat}{A B C D:Ql}(h:Blk w b (Ws (lad A B C D)) t)(a:A.length=5)(c:B.length=5):w.rangeAt b 10 (Ws C).toList:=by
 have:lad A B C D=(A++B)++C++D:=by simp[lad]
 rw[this]at h;have:=Ce h;rw[Qj,a,c]at this;exact this
theorem XD{w:Qx}{b t:Nat}{A B C D:Ql}(h:Blk w b (Ws (lad A B C D)) t)(a:A.length=5)(c:B.length=5)(d:C.length=5):w.rangeAt b 15 (Ws D).toList:=by
 have:lad A B C D=(A++B++C)++D++ []:=by simp[lad]
 rw[this]at h;have:=Ce h;rw[Qj,Qj,a,c,d]at this;exact this
theorem jV{P:QB}{o:Oper}{a:Act}{w:Qx}(e:QF)(x:QC)(j:o.op=.load e x)
  (b off:Nat) (l:a.eval x=.pointer (some ⟨b,off,none⟩)) (c:Array QA) (d:TypeDesc) (f:w.rangeAt b off c.toList)
  (k:P.underlying e=some d) (g:d.isRow=true) (i:(P.info? e).map (·.size)=some c.size):
  (QE a.eval o).run P w=.ok (.value (Qm c)) w:=by
 have h:=run_loadVar_mid w b off e c.toList d f k g (by simpa using i);rw[Array.toArray_toList]at h;unfold QE;simp only[j,l,Instr.loadAt,Instr.sureAddr,Sem.run_bind,Sem.run_pure,Result.andThen_ok,h]
theorem qV{P:QB}{f:Array Oper}{rest:List Oper}{o:Oper}{a:Act}{w:Qx}{Q:Exit->Act->Qx->Prop}(j:o.guard=none)(e:QF)(x:QC)(l:o.op=.load e x)
  (b off:Nat) (n:a.eval x=.pointer (some ⟨b,off,none⟩)) (c:Array QA) (d:TypeDesc) (g:w.rangeAt b off c.toList)
  (m:P.underlying e=some d) (i:d.isRow=true) (k:(P.info? e).map (·.size)=some c.size)
  (h:QD P f Q rest (a.put o.dst (Qm c)) w):QD P f Q (o::rest) a w:=
 wpList_load_mid j e x l b off n c.toList d g m i (by simpa using k) (by rw[Array.toArray_toList];exact h)
theorem zX{w:Qx}{b t off:Nat}{L:Ql}(h:Blk w b (Ws L) t)(e:off+5<=L.length){a:Array QA}(c:a.size=5):w.there b off a.size:=by
 rw[c];intro j d;refine⟨?_,h.frozen _⟩;rw[h.cell,cQ _ _ oo];rfl
theorem zU{w:Qx}{b t:Nat}{L:Ql}(h:Blk w b (Ws L) t)(off:Nat)(a c d e f:Qv):
  w.setCells b off (Ws [a,c,d,e,f]).toList=w.setRow b (Ws (((((L.set off a).set (off+1) c).set (off+1+1) d).set (off+1+1+1) e).set (off+1+1+1+1) f)):=by
 show((((w.setCell ⟨b,off,none⟩ (Qn QH (U a))).setCell ⟨b,off+1,none⟩ (Qn QH (U c))).setCell ⟨b,off+1+1,none⟩ (Qn QH (U d))).setCell ⟨b,off+1+1+1,none⟩ (Qn QH (U e))).setCell ⟨b,off+1+1+1+1,none⟩ (Qn QH (U f))=_
 rw[h.set,eC,(h.row _).set,Qz,eC,(h.row _).set,Qz,eC,(h.row _).set,Qz,eC,(h.row _).set,Qz,eC]
theorem acZ{w:Qx}{b t:Nat}{A B C D V:Ql}(h:Blk w b (Ws (lad A B C D)) t)(a:A.length=5)(c:V.length=5):w.setCells b 0 (Ws V).toList=w.setRow b (Ws (lad V B C D)):=by
 obtain⟨d,e,f,g,i,rfl⟩:=bH V c;obtain⟨j,k,l,m,n,rfl⟩:=bH A a;exact zU h 0 d e f g i
theorem acY{w:Qx}{b t:Nat}{A B C D V:Ql}(h:Blk w b (Ws (lad A B C D)) t)(a:A.length=5)(c:B.length=5)(d:V.length=5):w.setCells b 5 (Ws V).toList=w.setRow b (Ws (lad A V C D)):=by
 obtain⟨e,f,g,i,j,rfl⟩:=bH V d;obtain⟨k,l,m,n,o,rfl⟩:=bH A a;obtain⟨p,q,r,s,u,rfl⟩:=bH B c;exact zU h 5 e f g i j
theorem acX{w:Qx}{b t:Nat}{A B C D V:Ql}(h:Blk w b (Ws (lad A B C D)) t)(a:A.length=5)(c:B.length=5)(d:C.length=5)(e:V.length=5):w.setCells b 10 (Ws V).toList=w.setRow b (Ws (lad A B V D)):=by
 obtain⟨f,g,i,j,k,rfl⟩:=bH V e;obtain⟨l,m,n,o,p,rfl⟩:=bH A a;obtain⟨q,r,s,u,v,rfl⟩:=bH B c;obtain⟨x,y,z,E,F,rfl⟩:=bH C d;exact zU h 10 f g i j k
theorem acW{w:Qx}{b t:Nat}{A B C D V:Ql}(h:Blk w b (Ws (lad A B C D)) t)(a:A.length=5)(c:B.length=5)(d:C.length=5)(e:D.length=5)(f:V.length=5):w.setCells b 15 (Ws V).toList=w.setRow b (Ws (lad A B C V)):=by
 obtain⟨g,i,j,k,l,rfl⟩:=bH V f;obtain⟨m,n,o,p,q,rfl⟩:=bH A a;obtain⟨r,s,u,v,x,rfl⟩:=bH B c;obtain⟨y,z,E,F,G,rfl⟩:=bH C d;obtain⟨H,I,J,K,L,rfl⟩:=bH D e;exact zU h 15 g i j k l
theorem M7(w:Qx):Sem.run Qp (zeroValue 115) w=.ok (Qm (Ws (lad [0,0,0,0,0] [0,0,0,0,0] [0,0,0,0,0] [0,0,0,0,0]))) w:=kr
theorem W1(A B C D:Ql)(a:Qv)(w:Qx)(p:A.length=5)(e:B.length=5)(q:C.length=5)(k:D.length=5):
  Rw 109 #[Qm (Ws (lad A B C D)),Qn QH (U a)] w (Qm (Ws (lad (aY a A C).1 (aY a B D).1 (aY a A C).2 (aY a B D).2))):=by
 have hz:=M7;have I:=Qr λO=>Fd a A C O p q
 have J:=Qr λO=>Fd a B D O e k
 have d:(aY a A C).1.length=5:=by rw[aY,(dg _ _ _ _).1,p]
 have m:(aY a A C).2.length=5:=by rw[aY,(dg _ _ _ _).2,q]
 have r:(aY a B D).1.length=5:=by rw[aY,(dg _ _ _ _).1,e]
 have z:(aY a B D).2.length=5:=by rw[aY,(dg _ _ _ _).2,k]
 generalize (aY a A C).1=c at I d|-;generalize (aY a A C).2=f at I m|-;generalize (aY a B D).1=n at J r|-;generalize (aY a B D).2=s at J z|-;have sA:=Wz p;have sB:=Wz e;have sC:=Wz q;have sD:=Wz k;have T:=Wz d;have X:=Wz m;have W:=Wz r;have Z:=Wz z;have sZ:(lad [0,0,0,0,0] [0,0,0,0,0] [0,0,0,0,0] [0,0,0,0,0]).length=20:=rfl;generalize lad [0,0,0,0,0] [0,0,0,0,0] [0,0,0,0,0] [0,0,0,0,0]=l at hz sZ;have ad:=Wz sZ;have ab:=Cg p e q k;have g:WS w w.heap.size [(w.heap.size,Ws (lad A B C D),115),(w.heap.size+1,Ws l,115)] ((w.alloc (QI (Ws (lad A B C D)) 115)).alloc (QI (Ws l) 115)):=by
  have h1:=(WS.start (w:=w)).new (Ws (lad A B C D)) 115;have h2:=h1.new (Ws l) 115;rw[show (w.alloc (QI (Ws (lad A B C D)) 115)).heap.size=w.heap.size+1 by simp]at h2;exact h2.sub (by intro x b;simp only[Qc,Qa,or_false]at b|-;rcases b with rfl|rfl<;>simp)
 have K:=Tn (g.get 0 rfl);have L:=XE (g.get 0 rfl) p e;generalize hF:Ws (lad A B C D)=F at ab g K L|-;go_enter Tryz.func109,Tryz.ntmps109;go_wp2_with (first
  |(refine qV rfl 69 _ rfl w.heap.size 0 rfl (Ws A) _ K Qo rfl (by rw[sA];exact Qt) ?_)
  |(refine qV rfl 69 _ rfl w.heap.size 10 rfl (Ws C) _ L Qo rfl (by rw[sC];exact Qt) ?_))
 subst hF;clear K L;generalize (w.alloc (QI (Ws (lad A B C D)) 115)).alloc (QI (Ws l) 115)=w1 at g|-;refine gv I λw2 R=>?_
 replace g:=g.keep R;clear R;have G:=zX (off:=0) (g.get 0 rfl) (by rw[qX p e q k];omega) T;have j:=acZ (g.get 0 rfl) p d;have u:=g.upd w.heap.size (Ws (lad c B C D)) 115 [(w.heap.size,Ws (lad c B C D),115),(w.heap.size+1,Ws l,115)] ⟨_,mG (i:=0) rfl⟩ (by intro x b;simp only[Qc,Qa,or_false]at b;rcases b with rfl|rfl<;>first|exact Or.inl rfl|exact Or.inr ⟨ss,by dsimp only;omega⟩);have H:(w2.setCells w.heap.size 0 (Ws c).toList).there w.heap.size 10 (Ws f).size:=by rw[j];exact zX (u.get 0 rfl) (by rw[qX d e q k];omega) X
 have o:=acX (u.get 0 rfl) d e q m;rw[<-j]at o;have h:=u.upd w.heap.size (Ws (lad c B f D)) 115 [(w.heap.size,Ws (lad c B f D),115),(w.heap.size+1,Ws l,115)] ⟨_,mG (i:=0) rfl⟩ (by intro x b;simp only[Qc,Qa,or_false]at b;rcases b with rfl|rfl<;>first|exact Or.inl rfl|exact Or.inr ⟨ss,by dsimp only;omega⟩);rw[<-j,<-o]at h;clear g u j o;have P:=Tm (h.get 0 rfl) d;have Q:=XD (h.get 0 rfl) d e m;go_wp2_with (first
  |(refine Qy rfl 69 _ _ rfl w.heap.size 0 (Ws c) rfl rfl G (by rw[T];exact Qt) (aZ _) ?_)
  |(refine Qy rfl 69 _ _ rfl w.heap.size 10 (Ws f) rfl rfl H (by rw[X];exact Qt) (aZ _) ?_)
  |(refine qV rfl 69 _ rfl w.heap.size 5 rfl (Ws B) _ P Qo rfl (by rw[sB];exact Qt) ?_)
  |(refine qV rfl 69 _ rfl w.heap.size 15 rfl (Ws D) _ Q Qo rfl (by rw[sD];exact Qt) ?_))
 clear G H P Q;generalize (w2.setCells w.heap.size 0 (Ws c).toList).setCells w.heap.size 10 (Ws f).toList=w3 at h|-;refine gv J λw4 S=>?_
 replace h:=h.keep S;clear S;have G:=zX (off:=5) (h.get 0 rfl) (by rw[qX d e m k];omega) W;have j:=acY (h.get 0 rfl) d e r;have y:=h.upd w.heap.size (Ws (lad c n f D)) 115 [(w.heap.size,Ws (lad c n f D),115),(w.heap.size+1,Ws l,115)] ⟨_,mG (i:=0) rfl⟩ (by intro x b;simp only[Qc,Qa,or_false]at b;rcases b with rfl|rfl<;>first|exact Or.inl rfl|exact Or.inr ⟨ss,by dsimp only;omega⟩);have H:(w4.setCells w.heap.size 5 (Ws n).toList).there w.heap.size 15 (Ws s).size:=by rw[j];exact zX (y.get 0 rfl) (by rw[qX d r m k];omega) Z
 have o:=acW (y.get 0 rfl) d r m k z;rw[<-j]at o;have t:=y.upd w.heap.size (Ws (lad c n f s)) 115 [(w.heap.size,Ws (lad c n f s),115),(w.heap.size+1,Ws l,115)] ⟨_,mG (i:=0) rfl⟩ (by intro x b;simp only[Qc,Qa,or_false]at b;rcases b with rfl|rfl<;>first|exact Or.inl rfl|exact Or.inr ⟨ss,by dsimp only;omega⟩);rw[<-j,<-o]at t;clear h y j o;have M:=t.get 0 rfl;have N:=t.get 1 rfl;dsimp only at M N;unfold Blk at M N;have E:=Cg d r m z;go_wp2_with (first
  |(refine Qy rfl 69 _ _ rfl w.heap.size 5 (Ws n) rfl rfl G (by rw[W];exact Qt) (aZ _) ?_)
  |(refine Qy rfl 69 _ _ rfl w.heap.size 15 (Ws s) rfl rfl H (by rw[Z];exact Qt) (aZ _) ?_)
  |(refine ld Xe rfl rfl w.heap.size rfl M E ?_)
  |(refine wpList_store_row rfl 115 _ _ rfl (w.heap.size+1) _ rfl rfl 115 _ N (by rw[E];exact Tryz.infoL20) (by rw[E,ad]) (aZ _) ?_))
 refine QG (v:=Qm (Ws (lad c n f s))) ?_ rfl ⟨rfl,below_setRow t.below oo _⟩;exact results_cell_row rfl _ _ (w.heap.size+1) 115 _ (0,0) _ rfl ((t.get 1 rfl).row _) Qq rfl (by rw[E];exact Tryz.infoL20)
theorem Ci{P:QB}{o:Oper}{a:Act}{w:Qx}(t:QF)(b:List (Nat×QC))(f:o.op=.build t b.toArray)(c:List (Nat×QA))(g:b.map (λp=>(p.1,a.eval p.2))=c)
  (d:Array QA) (h:(QJ t c.toArray).run P w=.ok (Qm d) w):(QE a.eval o).run P w=.ok (.value (Qm d)) w:=by
 have e:(b.toArray.map λ(i,x)=>(i,a.eval x))=c.toArray:=by rw[<-g];simp
 unfold QE;simp only[f,e,Sem.run_bind,Sem.run_pure,Result.andThen_ok,h]
theorem vb{P:QB}{e:Array Oper}{rest:List Oper}{o:Oper}{a:Act}{w:Qx}{Q:Exit->Act->Qx->Prop}(g:o.guard=none)(t:QF)(c:List (Nat×QC))(i:o.op=.build t c.toArray)
  (d:List (Nat×QA)) (k:c.map (λp=>(p.1,a.eval p.2))=d) (b:Array QA) (h:(QJ t d.toArray).run P w=.ok (Qm b) w)
  (j:QD P e Q rest (a.put o.dst (Qm b)) w):QD P e Q (o::rest) a w:=
 wpList_plain g λK f=>by
  unfold Oper.wp;rw[Ci t c i d k b h];exact f _ _ j
def nu(A B:List (BitVec 64)):List (BitVec 64):=aa (aa (aI A B) (aI A B)) (aa (aL A B) (aL A B))
def C3(A B:List (BitVec 64)):List (BitVec 64):=aL (aa (aI A B) (aI A B)) (aa (aL A B) (aL A B))
def CX:List (BitVec 64):=[121665,0,0,0,0]
def nt(A B:List (BitVec 64)):List (BitVec 64):=aa (C3 A B) (aI (aa (aI A B) (aI A B)) (aa (C3 A B) CX))
def CY(A B C D:List (BitVec 64)):List (BitVec 64):=aa (aL C D) (aI A B)
def CZ(A B C D:List (BitVec 64)):List (BitVec 64):=aa (aI C D) (aL A B)
def nr(A B C D:List (BitVec 64)):List (BitVec 64):=aa (aI (CY A B C D) (CZ A B C D)) (aI (CY A B C D) (CZ A B C D))
def no(A B C D V:List (BitVec 64)):List (BitVec 64):=aa V (aa (aL (CY A B C D) (CZ A B C D)) (aL (CY A B C D) (CZ A B C D)))
theorem Z9(A B C D:Ql)(a:A.length=5)(b:B.length=5)(c:C.length=5)(d:D.length=5)(w:Qx):
  (QJ 115 #[(0,Qm (Ws A)),(1,Qm (Ws B)),(2,Qm (Ws C)),(3,Qm (Ws D))]).run Qp w=.ok (Qm (Ws (lad A B C D))) w:=by
 obtain⟨e,f,g,h,i,rfl⟩:=bH A a;obtain⟨j,k,l,m,n,rfl⟩:=bH B b;obtain⟨o,p,q,r,s,rfl⟩:=bH C c;obtain⟨t,u,v,x,y,rfl⟩:=bH D d;exact run_build w _ _ _ kr
theorem W3(A B C D V:Ql)(w:Qx)(l:A.length=5)(p:B.length=5)(q:C.length=5)(hD:D.length=5)(hV:V.length=5):
  Rw 110 #[Qm (Ws (lad A B C D)),Qm (Ws V)] w (Qm (Ws (lad (nu A B) (nt A B) (nr A B C D) (no A B C D V)))):=by
 have hz:=M7;have a4:lad (nu A B) (nt A B) (nr A B C D) (no A B C D V)=lad (aa (aa (aI A B) (aI A B)) (aa (aL A B) (aL A B)))
   (aa (aL (aa (aI A B) (aI A B)) (aa (aL A B) (aL A B))) (aI (aa (aI A B) (aI A B)) (aa (aL (aa (aI A B) (aI A B)) (aa (aL A B) (aL A B))) [121665,0,0,0,0])))
   (aa (aI (aa (aL C D) (aI A B)) (aa (aI C D) (aL A B))) (aI (aa (aL C D) (aI A B)) (aa (aI C D) (aL A B))))
   (aa V (aa (aL (aa (aL C D) (aI A B)) (aa (aI C D) (aL A B))) (aL (aa (aL C D) (aI A B)) (aa (aI C D) (aL A B))))):=by
  unfold nu nt nr no CY CZ C3 CX;rfl
 have f:=Qh a4
 clear a4;generalize lad (nu A B) (nt A B) (nr A B C D) (no A B C D V)=RR at f|-;have sA:=Wz l;have sB:=Wz p;have sC:=Wz q;have sD:=Wz hD;have sV:=Wz hV;have H1:=Qr λa=>yd A B a l p
 have hE:(aI A B).length=5:=by rw[lz,l]
 generalize aI A B=E at H1 hE f;have sE:=Wz hE;have H2:=Qr λa=>xg A B a l p
 have hF:(aL A B).length=5:=by rw[my,l]
 generalize aL A B=F at H2 hF f;have sF:=Wz hF;have H3:=Qr λa=>yd C D a q hD
 have hG:(aI C D).length=5:=by rw[lz,q]
 generalize aI C D=G at H3 hG f;have sG:=Wz hG;have H4:=Qr λa=>xg C D a q hD
 have hI:(aL C D).length=5:=by rw[my,q]
 generalize aL C D=I at H4 hI f;have sI:=Wz hI;have H5:=Qr λa=>eE I E a hI hE
 have L:(aa I E).length=5:=aw _ _;generalize aa I E=o at H5 L f;have a3:=Wz L;have H6:=Qr λa=>eE G F a hG hF
 have ah:(aa G F).length=5:=aw _ _;generalize aa G F=n at H6 ah f;have a2:=Wz ah;have H7:=Qr λa=>oY E a hE
 have s:(aa E E).length=5:=aw _ _;generalize aa E E=k at H7 s f;have an:=Wz s;have H8:=Qr λa=>oY F a hF
 have ag:(aa F F).length=5:=aw _ _;generalize aa F F=m at H8 ag f;have a1:=Wz ag;have H9:=Qr λa=>xg k m a s ag
 have ab:(aL k m).length=5:=by rw[my,s]
 generalize aL k m=i at H9 ab f;have a0:=Wz ab;have J1:=Qr λa=>eE k m a s ag
 have Q:(aa k m).length=5:=aw _ _;generalize aa k m=X at J1 Q f;have b5:=Wz Q;have J2:Hid (Rv 111 #[Qm (Ws i),Qm #[Qn QH 121665,Qn QH 0,Qn QH 0,Qn QH 0,Qn QH 0]] (Qm (Ws (aa i [121665,0,0,0,0])))):=λa=>eE i [121665,0,0,0,0] a ab rfl
 have t:(aa i [121665,0,0,0,0]).length=5:=aw _ _;generalize aa i [121665,0,0,0,0]=X1 at J2 t f;have b9:=Wz t;have J3:=Qr λa=>yd k X1 a s t
 have u:(aI k X1).length=5:=by rw[lz,s]
 generalize aI k X1=X2 at J3 u f;have ca:=Wz u;have J4:=Qr λa=>eE i X2 a ab u
 have R:(aa i X2).length=5:=aw _ _;generalize aa i X2=Z at J4 R f;have b6:=Wz R;have J5:=Qr λa=>yd o n a L ah
 have y:(aI o n).length=5:=by rw[lz,L]
 generalize aI o n=N at J5 y f;have cb:=Wz y;have J6:=Qr λa=>oY N a y
 have S:(aa N N).length=5:=aw _ _;generalize aa N N=RC at J6 S f;have b7:=Wz S;have J7:=Qr λa=>xg o n a L ah
 have z:(aL o n).length=5:=by rw[my,L]
 generalize aL o n=O at J7 z f;have cc:=Wz z;have J8:=Qr λa=>oY O a z
 have H:(aa O O).length=5:=aw _ _;generalize aa O O=X5 at J8 H f;have ce:=Wz H;have J9:=Qr λa=>eE V X5 a hV H
 have T:(aa V X5).length=5:=aw _ _;generalize aa V X5=RD at J9 T f;have b8:=Wz T;have hr:=f.out;subst hr;clear f;have sR:=Cg Q R S T;have lR:=qX Q R S T;have sZ:(lad [0,0,0,0,0] [0,0,0,0,0] [0,0,0,0,0] [0,0,0,0,0]).length=20:=rfl;generalize lad [0,0,0,0,0] [0,0,0,0,0] [0,0,0,0,0] [0,0,0,0,0]=J at hz sZ;have a7:=Wz sZ;have a5:=Cg l p q hD;have j:WS w w.heap.size [(w.heap.size,Ws (lad A B C D),115),(w.heap.size+1,Ws V,69),(w.heap.size+1+1,Ws J,115)] (((w.alloc (QI (Ws (lad A B C D)) 115)).alloc (QI (Ws V) 69)).alloc (QI (Ws J) 115)):=by
  have h1:=(WS.start (w:=w)).new (Ws (lad A B C D)) 115;have h2:=h1.new (Ws V) 69;rw[show (w.alloc (QI (Ws (lad A B C D)) 115)).heap.size=w.heap.size+1 by simp]at h2;have h3:=h2.new (Ws J) 115;rw[show ((w.alloc (QI (Ws (lad A B C D)) 115)).alloc (QI (Ws V) 69)).heap.size=w.heap.size+1+1 by simp]at h3;exact h3.sub (by intro x hx;simp only[Qc,Qa,or_false]at hx|-;rcases hx with rfl|rfl|rfl<;>simp)
 have W:WD _ _ _ _:=⟨j,by simp<;>omega⟩;clear j;generalize P:Ws (lad A B C D)=FD at a5|-;replace P:=Qh P;rw[P.out]at W;go_enter Tryz.func110,Tryz.ntmps110;go_wp2_with fail;rw[<-P.out]at W|-;clear a5 P;generalize ((w.alloc (QI (Ws (lad A B C D)) 115)).alloc (QI (Ws V) 69)).alloc (QI (Ws J) 115)=w1 at W|-;refine rgS [12,13] W.drew (λad j=>?_);clear W;refine ae 0 14 j ?_;refine ac 1 15 (v:=Qm (Ws A)) j ?_ ?_
 .exact λa g=>jV 69 _ rfl w.heap.size 0 rfl (Ws A) _ (Tn (g.get 0 rfl)) Qo rfl (by rw[sA];exact Qt)
 refine ae 2 16 j ?_;simp only[qQ];refine ac 3 17 (v:=Qm (Ws B)) j ?_ ?_
 .exact λa g=>jV 69 _ rfl w.heap.size 5 rfl (Ws B) _ (Tm (g.get 0 rfl) l) Qo rfl (by rw[sB];exact Qt)
 refine ae 5 19 j ?_;refine ac 6 20 (v:=Qm (Ws A)) j ?_ ?_
 .exact λa g=>jV 69 _ rfl w.heap.size 0 rfl (Ws A) _ (Tn (g.get 0 rfl)) Qo rfl (by rw[sA];exact Qt)
 simp only[qQ];refine ae 7 21 j ?_;refine ac 8 22 (v:=Qm (Ws B)) j ?_ ?_
 .exact λa g=>jV 69 _ rfl w.heap.size 5 rfl (Ws B) _ (Tm (g.get 0 rfl) l) Qo rfl (by rw[sB];exact Qt)
 try simp only[qQ]
 refine GU 2 [(4,18,Qm (Ws E)),(9,23,Qm (Ws F))] 10 5 #[Qn QH 0,Qn QH 0,Qn QH 0,Qn QH 0,Qn QH 0] 69 11 6 #[Qn QH 0,Qn QH 0,Qn QH 0,Qn QH 0,Qn QH 0] 69 j ⟨vc H1,vc H2⟩ (λn' qe qf ax b=>?_);clear j;simp only[kf,Qi,Qk,Qd,Qe,Qf,Qg,qQ];refine ltW 12 0 b Qt sE rfl (aZ _) (λa8 b=>?_);refine ltW 13 1 b Qt sF rfl (aZ _) (λa9 b=>?_);refine aC ?_;go_wp2_with fail;refine rgS [12,13] b.drew (λbd c=>?_);clear b;refine ae 0 24 c ?_;refine ac 1 25 (v:=Qm (Ws C)) c ?_ ?_
 .exact λa g=>jV 69 _ rfl w.heap.size 10 rfl (Ws C) _ (XE (g.get 2 rfl) l p) Qo rfl (by rw[sC];exact Qt)
 refine ae 2 26 c ?_;simp only[qQ];refine ac 3 27 (v:=Qm (Ws D)) c ?_ ?_
 .exact λa g=>jV 69 _ rfl w.heap.size 15 rfl (Ws D) _ (XD (g.get 2 rfl) l p q) Qo rfl (by rw[sD];exact Qt)
 refine ae 5 29 c ?_;refine ac 6 30 (v:=Qm (Ws C)) c ?_ ?_
 .exact λa g=>jV 69 _ rfl w.heap.size 10 rfl (Ws C) _ (XE (g.get 2 rfl) l p) Qo rfl (by rw[sC];exact Qt)
 simp only[qQ];refine ae 7 31 c ?_;refine ac 8 32 (v:=Qm (Ws D)) c ?_ ?_
 .exact λa g=>jV 69 _ rfl w.heap.size 15 rfl (Ws D) _ (XD (g.get 2 rfl) l p q) Qo rfl (by rw[sD];exact Qt)
 try simp only[qQ]
 refine GU 2 [(4,28,Qm (Ws G)),(9,33,Qm (Ws I))] 10 7 #[Qn QH 0,Qn QH 0,Qn QH 0,Qn QH 0,Qn QH 0] 69 11 8 #[Qn QH 0,Qn QH 0,Qn QH 0,Qn QH 0,Qn QH 0] 69 c ⟨vc H3,vc H4⟩ (λn' qg qh bx b=>?_);clear c;simp only[kf,Qi,Qk,Qd,Qe,Qf,Qg,qQ];refine ltW 12 0 b Qt sG rfl (aZ _) (λba b=>?_);refine ltW 13 1 b Qt sI rfl (aZ _) (λbb b=>?_);refine aC ?_;go_wp2_with fail;refine rgS [8,9] b.drew (λcd c=>?_);clear b;refine ar 0 34 t69 (λ_ h=>h.get 1 rfl) sI c ?_;refine ar 1 35 t69 (λ_ h=>h.get 2 rfl) sE c ?_;refine ar 3 37 t69 (λ_ h=>h.get 0 rfl) sG c ?_;simp only[qQ];refine ar 4 38 t69 (λ_ h=>h.get 3 rfl) sF c ?_;try simp only[qQ]
 refine GU 2 [(2,36,Qm (Ws o)),(5,39,Qm (Ws n))] 6 9 #[Qn QH 0,Qn QH 0,Qn QH 0,Qn QH 0,Qn QH 0] 69 7 10 #[Qn QH 0,Qn QH 0,Qn QH 0,Qn QH 0,Qn QH 0] 69 c ⟨vc H5,vc H6⟩ (λn' qi qj cx b=>?_);clear c;simp only[kf,Qi,Qk,Qd,Qe,Qf,Qg,qQ];refine ltW 8 0 b Qt a3 rfl (aZ _) (λbh b=>?_);refine ltW 9 1 b Qt a2 rfl (aZ _) (λbi b=>?_);refine aC ?_;go_wp2_with fail;refine rgS [6,7] b.drew (λfd c=>?_);clear b;refine ar 0 40 t69 (λ_ h=>h.get 4 rfl) sE c ?_;refine ar 2 42 t69 (λ_ h=>h.get 5 rfl) sF c ?_;try simp only[qQ]
 refine GU 2 [(1,41,Qm (Ws k)),(3,43,Qm (Ws m))] 4 11 #[Qn QH 0,Qn QH 0,Qn QH 0,Qn QH 0,Qn QH 0] 69 5 12 #[Qn QH 0,Qn QH 0,Qn QH 0,Qn QH 0,Qn QH 0] 69 c ⟨vc H7,vc H8⟩ (λn' qk ql fx b=>?_);clear c;simp only[kf,Qi,Qk,Qd,Qe,Qf,Qg,qQ];refine ltW 6 0 b Qt an rfl (aZ _) (λbk b=>?_);refine ltW 7 1 b Qt a1 rfl (aZ _) (λbq b=>?_);refine aC ?_;have ga:=b.get 0 rfl;have gb:=b.get 1 rfl;dsimp only at ga gb;unfold Blk at ga gb;go_wp2_with (first
  |(refine ld t69 rfl rfl qk rfl ga an ?_)
  |(refine ld t69 rfl rfl ql rfl gb a1 ?_))
 refine gv H9 λr k5=>?_
 replace b:=b.keep k5;clear k5 ga gb;have hN:=b.new #[Qn QH 0,Qn QH 0,Qn QH 0,Qn QH 0,Qn QH 0] 69;have gz:=hN.get 0 rfl;dsimp only at gz;unfold Blk at gz;go_wp2_with (refine st t69 rfl rfl r.heap.size rfl rfl gz a0 rfl (aZ _) ?_);replace b:WD w (w.heap.size) [(r.heap.size,Ws i,69),(qk,Ws k,69),(ql,Ws m,69),(qi,Ws o,69),(qj,Ws n,69),(qg,Ws G,69),(qh,Ws I,69),(qe,Ws E,69),(qf,Ws F,69),(w.heap.size,Ws (lad A B C D),115),(w.heap.size+1,Ws V,69),(w.heap.size+1+1,Ws J,115)] ((r.alloc (QI #[Qn QH 0,Qn QH 0,Qn QH 0,Qn QH 0,Qn QH 0] 69)).setRow r.heap.size (Ws i)):=hN.over 0 rfl (Ws i);clear hN gz;generalize (r.alloc (QI #[Qn QH 0,Qn QH 0,Qn QH 0,Qn QH 0,Qn QH 0] 69)).setRow r.heap.size (Ws i)=w6 at b|-;replace b:=b.sub (l':=[(r.heap.size,Ws i,69),(qk,Ws k,69),(ql,Ws m,69),(qi,Ws o,69),(qj,Ws n,69),(w.heap.size+1,Ws V,69),(w.heap.size+1+1,Ws J,115)]) (.cons_cons _ (.cons_cons _ (.cons_cons _ (.cons_cons _ (.cons_cons _ (.cons _ (.cons _ (.cons _ (.cons _ (.cons _ (.cons_cons _ (.cons_cons _ .slnil))))))))))));generalize r.heap.size=qm at b|-;have HB:=Qh (Z9 X Z RC RD Q R S T);have a6:Hid (∀a:Qx,(QJ 69 #[(0,Qn QH 121665)]).run Qp a=.ok (Qm #[Qn QH 121665,Qn QH 0,Qn QH 0,Qn QH 0,Qn QH 0]) a):=λa=>run_build a _ _ _ kr
 refine rgS [21] b.drew (λmd c=>?_);clear b;refine ar 0 47 t69 (λ_ h=>h.get 1 rfl) an c ?_;refine ar 1 48 t69 (λ_ h=>h.get 2 rfl) a1 c ?_;refine ar 3 50 t69 (λ_ h=>h.get 0 rfl) a0 c ?_;simp only[qQ];refine ar 4 51 t69 (λ_ h=>h.get 1 rfl) an c ?_;refine ar 5 52 t69 (λ_ h=>h.get 0 rfl) a0 c ?_;refine ac 6 53 (v:=Qm #[Qn QH 121665,Qn QH 0,Qn QH 0,Qn QH 0,Qn QH 0]) c ?_ ?_
 .exact λa _=>Ci 69 _ rfl [(0,Qn QH 121665)] rfl _ (a6.out a)
 simp only[qQ];refine ar 10 57 t69 (λ_ h=>h.get 3 rfl) a3 c ?_;refine ar 11 58 t69 (λ_ h=>h.get 4 rfl) a2 c ?_;refine ar 14 61 t69 (λ_ h=>h.get 5 rfl) sV c ?_;simp only[qQ];refine ar 15 62 t69 (λ_ h=>h.get 3 rfl) a3 c ?_;refine ar 16 63 t69 (λ_ h=>h.get 4 rfl) a2 c ?_;try simp only[qQ]
 refine aF 2 λK d=>?_
 go_simp;go_wp2_with (go_at_call 111;refine gv J1 λbs e=>?_);have t:=c.keep e;refine d.out _ _ t ?_;try simp only[qQ]
 clear d K e c;refine aF 7 λK d=>?_
 go_simp;go_wp2_with (go_at_call 111;refine gv J2 λbt e=>?_);have u:=t.keep e;refine d.out _ _ u ?_;try simp only[qQ]
 clear d K e t;refine aF 8 λK d=>?_
 go_simp;go_wp2_with (go_at_call 161;refine gv J3 λbz e=>?_);have y:=u.keep e;refine d.out _ _ y ?_;try simp only[qQ]
 clear d K e u;refine aF 9 λK d=>?_
 go_simp;go_wp2_with (go_at_call 111;refine gv J4 λbX e=>?_);have z:=y.keep e;refine d.out _ _ z ?_;try simp only[qQ]
 clear d K e y;refine aF 12 λK d=>?_
 go_simp;go_wp2_with (go_at_call 161;refine gv J5 λbY e=>?_);have H:=z.keep e;refine d.out _ _ H ?_;try simp only[qQ]
 clear d K e z;refine aF 13 λK d=>?_
 go_simp;go_wp2_with (go_at_call 163;refine gv J6 λb0 e=>?_);have ap:=H.keep e;refine d.out _ _ ap ?_;try simp only[qQ]
 clear d K e H;refine aF 17 λK d=>?_
 go_simp;go_wp2_with (go_at_call 162;refine gv J7 λb1 e=>?_);have ay:=ap.keep e;refine d.out _ _ ay ?_;try simp only[qQ]
 clear d K e ap;refine aF 18 λK d=>?_
 go_simp;go_wp2_with (go_at_call 163;refine gv J8 λb2 e=>?_);have az:=ay.keep e;refine d.out _ _ az ?_;try simp only[qQ]
 clear d K e ay;refine aF 19 λK d=>?_
 go_simp;go_wp2_with (go_at_call 111;refine gv J9 λb3 e=>?_);have M:=az.keep e;refine d.out _ _ M ?_;try simp only[qQ]
 clear d K e az;refine ac 20 67 (v:=Qm (Ws (lad X Z RC RD))) M ?_ ?_
 .exact λa _=>Ci 115 _ rfl [(0,Qm (Ws X)),(1,Qm (Ws Z)),(2,Qm (Ws RC)),(3,Qm (Ws RD))] rfl _ (HB.out a)
 simp only[qQ];generalize ao:lad X Z RC RD=LR at sR lR|-;replace ao:=Qh ao;refine ltW 21 6 M Tryz.infoL20 sR a7 (aZ _) (λb4 M=>?_);refine aC ?_;go_wp2;refine QG (v:=Qm (Ws LR)) ?_ rfl ⟨by rw[ao.out],M.below⟩;exact rr Xe rfl rfl (M.get 6 rfl) sR
end Go.Proofs.YtclpbaokadfhhaaGreatDoor
