import Derived.Test.YtclpbaokadfhhaaGreatDoorYa
set_option maxRecDepth 100000
set_option maxHeartbeats 20000000
open Go.Value renaming agg->Qa,int->Qc,tuple->Qd
open Go.Proofs.Tryz renaming underlying69->Qe,prog->Qf
open Go renaming World->Qg,bodyPost_ret->Qi,setRow_setRow->Qj,wpList_store_mid->Qk,results_cell_row->Qm,Value->Qn,Program->Qo,Operand->Qp,wpList_store_row->Qq,run_build->Qt,wpList->Qx,execOp->Qy,TypeId->Qz,below_setRow->QA
open Go.Proofs.YtclpbaokadfhhaaGreatDoor.Tryz renaming infoF5->QB
open List renaming cons_append->QC,nil_append->QD,foldl_cons->QE,foldl_nil->QF,map_cons->QG,map_nil->QH
open Go.IntKind renaming u64->QI
open Go.Obj renaming cells->QJ
open Go.Proofs.YtclpbaokadfhhaaGreatDoor renaming Ff_factor->QL,Ff_one5->QM,Cv_base->QN,Cv_Ok->QO,Cv_Pn->QP
open Go.Instr renaming build->QQ
namespace Go.Proofs.YtclpbaokadfhhaaGreatDoor
open Go.RowKit
def pt(X Y Z:List (BitVec 64)):List (BitVec 64):=X++Y++Z
theorem pm{X Y Z:Ql}(a:X.length=5)(b:Y.length=5)(c:Z.length=5):(pt X Y Z).length=15:=by simp[pt,a,b,c]
theorem tr{X Y Z:Ql}(a:X.length=5)(b:Y.length=5)(c:Z.length=5):(Ws (pt X Y Z)).size=15:=by rw[dA,pm a b c]
theorem Tryz.infoP15:(Qf.info? 122).map (·.size)=some 15:=kr
theorem r6:Ty 122 15:=⟨_,Tryz.underlying122,rfl,Tryz.infoP15⟩
theorem KA{w:Qg}{b t:Nat}{X Y Z:Ql}(h:Blk w b (Ws (X++Y++Z)) t):w.rangeAt b X.length (Ws Y).toList:=by
 intro j v a;rw[h.cell];have c:j<Y.length:=by have:=(List.getElem?_eq_some_iff.1 a).1;simpa [Ws]using this
 rw[Array.getElem?_toList]at a;rw[N6]at a|-;rw[List.append_assoc,List.getElem?_append_right oo,Nat.add_sub_cancel_left,List.getElem?_append_left c];exact a
theorem ptX{w:Qg}{b t:Nat}{X Y Z:Ql}(h:Blk w b (Ws (pt X Y Z)) t):w.rangeAt b 0 (Ws X).toList:=by
 have:pt X Y Z=[]++X++(Y++Z):=by simp[pt]
 rw[this]at h;exact KA h
theorem ptY{w:Qg}{b t:Nat}{X Y Z:Ql}(h:Blk w b (Ws (pt X Y Z)) t)(a:X.length=5):w.rangeAt b 5 (Ws Y).toList:=by
 have:=KA h;rw[a]at this;exact this
theorem ptZ{w:Qg}{b t:Nat}{X Y Z:Ql}(h:Blk w b (Ws (pt X Y Z)) t)(a:X.length=5)(c:Y.length=5):w.rangeAt b 10 (Ws Z).toList:=by
 have:pt X Y Z=(X++Y)++Z++ []:=by simp[pt]
 rw[this]at h;have:=KA h;rw[List.length_append,a,c]at this;exact this
theorem m8{P:Qo}{o:Oper}{a:Act}{w:Qg}(e:Qz)(x:Qp)(j:o.op=.load e x)
  (b off:Nat) (l:a.eval x=.pointer (some ⟨b,off,none⟩)) (c:Array Qn) (d:TypeDesc) (f:w.rangeAt b off c.toList)
  (k:P.underlying e=some d) (g:d.isRow=true) (i:(P.info? e).map (·.size)=some c.size):
  (Qy a.eval o).run P w=.ok (.value (Qa c)) w:=by
 have h:=run_loadVar_mid w b off e c.toList d f k g (by simpa using i);rw[Array.toArray_toList]at h;unfold Qy;simp only[j,l,Instr.loadAt,Instr.sureAddr,Sem.run_bind,Sem.run_pure,Result.andThen_ok,h]
theorem nF{P:Qo}{f:Array Oper}{rest:List Oper}{o:Oper}{a:Act}{w:Qg}{Q:Exit->Act->Qg->Prop}(j:o.guard=none)(e:Qz)(x:Qp)(l:o.op=.load e x)
  (b off:Nat) (n:a.eval x=.pointer (some ⟨b,off,none⟩)) (c:Array Qn) (d:TypeDesc) (g:w.rangeAt b off c.toList)
  (m:P.underlying e=some d) (i:d.isRow=true) (k:(P.info? e).map (·.size)=some c.size)
  (h:Qx P f Q rest (a.put o.dst (Qa c)) w):Qx P f Q (o::rest) a w:=
 wpList_load_mid j e x l b off n c.toList d g m i (by simpa using k) (by rw[Array.toArray_toList];exact h)
theorem uO{P:Qo}{o:Oper}{a:Act}{w:Qg}(t:Qz)(b:List (Nat×Qp))(f:o.op=.build t b.toArray)(c:List (Nat×Qn))(g:b.map (λp=>(p.1,a.eval p.2))=c)
  (d:Array Qn) (h:(QQ t c.toArray).run P w=.ok (Qa d) w):(Qy a.eval o).run P w=.ok (.value (Qa d)) w:=by
 have e:(b.toArray.map λ(i,x)=>(i,a.eval x))=c.toArray:=by rw[<-g];simp
 unfold Qy;simp only[f,e,Sem.run_bind,Sem.run_pure,Result.andThen_ok,h]
theorem nG{P:Qo}{e:Array Oper}{rest:List Oper}{o:Oper}{a:Act}{w:Qg}{Q:Exit->Act->Qg->Prop}(g:o.guard=none)(t:Qz)(c:List (Nat×Qp))(i:o.op=.build t c.toArray)
  (d:List (Nat×Qn)) (k:c.map (λp=>(p.1,a.eval p.2))=d) (b:Array Qn) (h:(QQ t d.toArray).run P w=.ok (Qa b) w)
  (j:Qx P e Q rest (a.put o.dst (Qa b)) w):Qx P e Q (o::rest) a w:=
 wpList_plain g λK f=>by
  unfold Oper.wp;rw[uO t c i d k b h];exact f _ _ j
theorem Fw(X Y Z:Ql)(a:X.length=5)(b:Y.length=5)(c:Z.length=5)(w:Qg):
  (QQ 122 #[(0,Qa (Ws X)),(1,Qa (Ws Y)),(2,Qa (Ws Z))]).run Qf w=.ok (Qa (Ws (pt X Y Z))) w:=by
 obtain⟨d,e,f,g,h,rfl⟩:=bH X a;obtain⟨i,j,k,l,m,rfl⟩:=bH Y b;obtain⟨n,o,p,q,r,rfl⟩:=bH Z c;exact Qt w _ _ _ kr
def Z15:List (BitVec 64):=pt [0,0,0,0,0] [0,0,0,0,0] [0,0,0,0,0]
theorem wJ:Z15.length=15:=rfl
theorem yZ(w:Qg):Sem.run Qf (zeroValue 122) w=.ok (Qa (Ws Z15)) w:=kr
theorem NW(w:Qg):(QQ 122 #[]).run Qf w=.ok (Qa (Ws Z15)) w:=Qt w _ _ _ kr
theorem UT(w:Qg):Rw 173 #[] w (Qa (Ws QM)):=by
 go_enter Tryz.func173,Tryz.ntmps173;go_wp2;refine Qi (v:=Qa (Ws QM)) ?_ rfl ⟨rfl,bR.alloc nR _⟩;exact Qm rfl _ _ w.heap.size 69 (Ws QM) (0,0) _ rfl (Blk.new w (Ws QM) _) Qe rfl QB
theorem Pu(w:Qg):Rw 213 #[] w (Qa (Ws QL)):=by
 go_enter Tryz.func213,Tryz.ntmps213;go_wp2;refine Qi (v:=Qa (Ws QL)) ?_ rfl ⟨rfl,bR.alloc nR _⟩;exact Qm rfl _ _ w.heap.size 69 (Ws QL) (0,0) _ rfl (Blk.new w (Ws QL) _) Qe rfl QB
theorem adq(w:Qg):Rw 249 #[] w (Qa (Ws lK)):=by
 go_enter Tryz.func249,Tryz.ntmps249;go_wp2;refine Qi (v:=Qa (Ws lK)) ?_ rfl ⟨rfl,bR.alloc nR _⟩;exact Qm rfl _ _ w.heap.size 69 (Ws lK) (0,0) _ rfl (Blk.new w (Ws lK) _) Qe rfl QB
theorem Mo(a:Ql)(w:Qg)(g:a.length=5):
  Rw 229 #[Qa (Ws a)] w (Qa (Ws (fL a))):=by
 have k:=Wz g;have h:Blk ((w.alloc (QJ (Ws a) 69)).alloc (QJ (Ws [0,0,0,0,0]) 69)) w.heap.size (Ws a) 69:=heap_alloc2_old w _ _;have c:Blk ((w.alloc (QJ (Ws a) 69)).alloc (QJ (Ws [0,0,0,0,0]) 69)) (w.heap.size+1) (Ws [0,0,0,0,0]) 69:=heap_alloc2_new w _ _;have b:Below w.heap.size w ((w.alloc (QJ (Ws a) 69)).alloc (QJ (Ws [0,0,0,0,0]) 69)):=(bR.alloc nR _).alloc ss _;have f:Hid (Rv 162 #[Qa #[Qc QI 0,Qc QI 0,Qc QI 0,Qc QI 0,Qc QI 0],Qa (Ws a)] (Qa (Ws (fL a)))):=λm=>xg [0,0,0,0,0] a m rfl g
 have e:(fL a).length=5:=oz _;generalize fL a=R at f e|-;have j:=Wz e;have d:=h;unfold Blk at d;rw[<-FZ5]at d;go_enter Tryz.func229,Tryz.ntmps229;go_wp2_with (first
  |(refine ld t69 rfl rfl w.heap.size rfl d k ?_))
 rw[show (w.alloc (QJ (Ws a) 69)).alloc (QJ #[Qc QI 0,Qc QI 0,Qc QI 0,Qc QI 0,Qc QI 0] 69)=(w.alloc (QJ (Ws a) 69)).alloc (QJ (Ws [0,0,0,0,0]) 69)from rfl];clear d;generalize (w.alloc (QJ (Ws a) 69)).alloc (QJ (Ws [0,0,0,0,0]) 69)=o at h c b|-;refine gv f λp i=>?_
 replace c:=c.keep i;replace b:=b.trans (i.mono b.size);have n:=de (l:=R) c (by rw[e];rfl);go_wp2;refine Qi (v:=Qa (Ws R)) ?_ rfl ⟨rfl,QA b oo _⟩;exact rr t69 rfl rfl (c.row _) j
theorem GD(a:Ql)(w:Qg)(g:a.length=5):
  Rw 177 #[Qa (Ws a)] w (Qc .u8 ((io a).toNat:Int)):=by
 have u:=Wz g;have j:=Blk.new w (Ws a) 69;have c:Below w.heap.size w (w.alloc (QJ (Ws a) 69)):=bR.alloc nR _;have h:=Qr λd=>zN a d g
 have e:=Qh (p:=io a=((aW a).getD 0 0&&&1).toNat.toUInt8) rfl
 have k:(aW a).length=5:=by rw[oV,g]
 generalize io a=B at e|-;generalize aW a=R at h k e;obtain⟨b,m,n,o,q,rfl⟩:=bH R k;have r:bits BinOp.and QI (U b) 1=U (b&&&1):=nK b 1;have l:=GV (b&&&1);have i:B=((b&&&1).toNat.toUInt8):=e.out;rw[<-i]at l;clear e i;generalize b&&&1=y at r l;have s:∀d:Qg,(Instr.index 69 (Qa (Ws [b,m,n,o,q])) (Qc .i64 0)).run Qf d=.ok (Qc QI (U b)) d:=λd=>kr
 have f:=j;unfold Blk at f;go_enter Tryz.func177,Tryz.ntmps177;go_wp2_with (first
  |(refine ld t69 rfl rfl w.heap.size rfl f u ?_))
 clear f;generalize w.alloc (QJ (Ws a) 69)=x at j c|-;refine gv h λz t=>?_
 replace c:=c.trans (t.mono c.size);generalize Ws [b,m,n,o,q]=v at s|-;go_wp2;go_ret;exact⟨rfl,c⟩
theorem aaX(A B C D E F RR:Ql)(w:Qg)(q:A.length=5)(z:B.length=5)(hC:C.length=5)(r:D.length=5)(G:E.length=5)(hF:F.length=5)
  (d:Hid (RR=pt (aa (aa (aa C F) (aI (aa A E) (aa D B))) (aL (aa (aa C F) (aa C F)) (aa (aa QL (aa A D)) (aa B E)))) (aa (aa (aa C F) (aI (aa B E) (aa A D))) (aI (aa (aa C F) (aa C F)) (aa (aa QL (aa A D)) (aa B E)))) (aa (aI (aa (aa C F) (aa C F)) (aa (aa QL (aa A D)) (aa B E))) (aL (aa (aa C F) (aa C F)) (aa (aa QL (aa A D)) (aa B E)))))):
  Rw 174 #[Qa (Ws (pt A B C)),Qa (Ws (pt D E F))] w (Qa (Ws RR)):=by
 have hz:=yZ;have sA:=Wz q;have sB:=Wz z;have sC:=Wz hC;have sD:=Wz r;have sE:=Wz G;have sF:=Wz hF;have H1:=Qr λa=>eE A D a q r
 have ao:(aa A D).length=5:=aw _ _;generalize aa A D=k at H1 ao d;have bq:=Wz ao;have H2:=Qr λa=>eE B E a z G
 have O:(aa B E).length=5:=aw _ _;generalize aa B E=l at H2 O d;have bs:=Wz O;have H3:=Qr λa=>eE A E a q G
 have an:(aa A E).length=5:=aw _ _;generalize aa A E=X at H3 an d;have cx:=Wz an;have H4:=Qr λa=>eE D B a r z
 have a2:(aa D B).length=5:=aw _ _;generalize aa D B=Z at H4 a2 d;have cz:=Wz a2;have H5:=Qr λa=>yd X Z a an a2
 have ay:(aI X Z).length=5:=by rw[lz,an]
 generalize aI X Z=t at H5 ay d;have bz:=Wz ay;have H6:=Qr λa=>eE C F a hC hF
 have P:(aa C F).length=5:=aw _ _;generalize aa C F=g at H6 P d;have ap:=Wz P;have H7:=Qr λa=>oY g a P
 have x:(aa g g).length=5:=aw _ _;generalize aa g g=p at H7 x d;have bk:=Wz x;have H8:=Qr (Pu)
 have az:(QL).length=5:=rfl;generalize QL=Q at H8 az d;have cp:=Wz az;have H9:=Qr λa=>eE Q k a az ao
 have a0:(aa Q k).length=5:=aw _ _;generalize aa Q k=R at H9 a0 d;have cr:=Wz a0;have bt:=Qr λa=>eE R l a a0 O
 have ab:(aa R l).length=5:=aw _ _;generalize aa R l=m at bt ab d;have bb:=Wz ab;have J1:=Qr λa=>yd p m a x ab
 have ah:(aI p m).length=5:=by rw[lz,x]
 generalize aI p m=o at J1 ah d;have bi:=Wz ah;have J2:=Qr λa=>xg p m a x ab
 have ag:(aL p m).length=5:=by rw[my,x]
 generalize aL p m=n at J2 ag d;have bh:=Wz ag;have J3:=Qr λa=>eE g t a P ay
 have a9:(aa g t).length=5:=aw _ _;generalize aa g t=ZA at J3 a9 d;have cX:=Wz a9;have J4:=Qr λa=>eE ZA n a a9 ag
 have J:(aa ZA n).length=5:=aw _ _;generalize aa ZA n=S at J4 J d;have cs:=Wz J;have J5:=Qr λa=>yd l k a O ao
 have a8:(aI l k).length=5:=by rw[lz,O]
 generalize aI l k=YX at J5 a8 d;have cK:=Wz a8;have J6:=Qr λa=>eE g YX a P a8
 have ba:(aa g YX).length=5:=aw _ _;generalize aa g YX=ZY at J6 ba d;have cY:=Wz ba;have J7:=Qr λa=>eE ZY o a ba ah
 have L:(aa ZY o).length=5:=aw _ _;generalize aa ZY o=T at J7 L d;have cv:=Wz L;have J8:=Qr λa=>eE o n a ah ag
 have M:(aa o n).length=5:=aw _ _;generalize aa o n=W at J8 M d;have cw:=Wz M;have hr:=d.out;subst hr;clear d;have sR:=tr J L M;have lR:=pm J L M;have sZ:=wJ;generalize Z15=u at hz sZ;have bX:=Wz sZ;have sP:=tr q z hC;have sQ:=tr r G hF;have N:WD w w.heap.size [(w.heap.size+1+1,Ws u,122),(w.heap.size+1,Ws (pt D E F),122),(w.heap.size,Ws (pt A B C),122)] (((w.alloc (QJ (Ws (pt A B C)) 122)).alloc (QJ (Ws (pt D E F)) 122)).alloc (QJ (Ws u) 122)):=by
  have h1:=(WD.start (w:=w)).new (Ws (pt A B C)) 122;have h2:=h1.new (Ws (pt D E F)) 122;rw[show (w.alloc (QJ (Ws (pt A B C)) 122)).heap.size=w.heap.size+1 by simp]at h2;have h3:=h2.new (Ws u) 122;rw[show ((w.alloc (QJ (Ws (pt A B C)) 122)).alloc (QJ (Ws (pt D E F)) 122)).heap.size=w.heap.size+1+1 by simp]at h3;exact h3
 generalize H:Ws (pt A B C)=PA at sP|-;replace H:=Qh H;generalize I:Ws (pt D E F)=PB at sQ|-;replace I:=Qh I;rw[H.out,I.out]at N;go_enter Tryz.func174,Tryz.ntmps174;go_wp2_with fail;rw[<-H.out,<-I.out]at N|-;clear sP sQ H I;generalize ((w.alloc (QJ (Ws (pt A B C)) 122)).alloc (QJ (Ws (pt D E F)) 122)).alloc (QJ (Ws u) 122)=w1 at N|-;refine rgS [12,13] N.drew (λad j=>?_);clear N;refine ae 0 13 j ?_;refine ac 1 14 (v:=Qa (Ws A)) j ?_ ?_
 .exact λa i=>m8 69 _ rfl (w.heap.size) 0 rfl (Ws A) _ (ptX (i.get 2 rfl)) Qe rfl (by rw[sA];exact QB)
 refine ae 2 15 j ?_;simp only[qQ];refine ac 3 16 (v:=Qa (Ws D)) j ?_ ?_
 .exact λa i=>m8 69 _ rfl (w.heap.size+1) 0 rfl (Ws D) _ (ptX (i.get 1 rfl)) Qe rfl (by rw[sD];exact QB)
 refine ae 5 18 j ?_;refine ac 6 19 (v:=Qa (Ws B)) j ?_ ?_
 .exact λa i=>m8 69 _ rfl (w.heap.size) 5 rfl (Ws B) _ (ptY (i.get 2 rfl) q) Qe rfl (by rw[sB];exact QB)
 simp only[qQ];refine ae 7 20 j ?_;refine ac 8 21 (v:=Qa (Ws E)) j ?_ ?_
 .exact λa i=>m8 69 _ rfl (w.heap.size+1) 5 rfl (Ws E) _ (ptY (i.get 1 rfl) r) Qe rfl (by rw[sE];exact QB)
 try simp only[qQ]
 refine GU 2 [(4,17,Qa (Ws k)),(9,22,Qa (Ws l))] 10 5 #[Qc QI 0,Qc QI 0,Qc QI 0,Qc QI 0,Qc QI 0] 69 11 6 #[Qc QI 0,Qc QI 0,Qc QI 0,Qc QI 0,Qc QI 0] 69 j ⟨vc H1,vc H2⟩ (λn' q5 q6 ax b=>?_);clear j;simp only[kf,QG,QH,QC,QD,QE,QF,qQ];refine ltW 12 0 b QB bq rfl (aZ _) (λbY b=>?_);refine ltW 13 1 b QB bs rfl (aZ _) (λb0 b=>?_);refine aC ?_;go_wp2_with fail;refine rgS [12] b.drew (λbd c=>?_);clear b;refine ae 0 23 c ?_;refine ac 1 24 (v:=Qa (Ws A)) c ?_ ?_
 .exact λa i=>m8 69 _ rfl (w.heap.size) 0 rfl (Ws A) _ (ptX (i.get 4 rfl)) Qe rfl (by rw[sA];exact QB)
 refine ae 2 25 c ?_;simp only[qQ];refine ac 3 26 (v:=Qa (Ws E)) c ?_ ?_
 .exact λa i=>m8 69 _ rfl (w.heap.size+1) 5 rfl (Ws E) _ (ptY (i.get 3 rfl) r) Qe rfl (by rw[sE];exact QB)
 refine ae 5 28 c ?_;refine ac 6 29 (v:=Qa (Ws D)) c ?_ ?_
 .exact λa i=>m8 69 _ rfl (w.heap.size+1) 0 rfl (Ws D) _ (ptX (i.get 3 rfl)) Qe rfl (by rw[sD];exact QB)
 simp only[qQ];refine ae 7 30 c ?_;refine ac 8 31 (v:=Qa (Ws B)) c ?_ ?_
 .exact λa i=>m8 69 _ rfl (w.heap.size) 5 rfl (Ws B) _ (ptY (i.get 4 rfl) q) Qe rfl (by rw[sB];exact QB)
 try simp only[qQ]
 refine yh 1 [(4,27,Qa (Ws X)),(9,32,Qa (Ws Z)),(10,33,Qa (Ws t))] 11 7 #[Qc QI 0,Qc QI 0,Qc QI 0,Qc QI 0,Qc QI 0] 69 c ⟨vc H3,vc H4,vc H5⟩ (λn' q7 bx b=>?_);clear c;simp only[kf,QG,QH,QC,QD,QE,QF,qQ];refine ltW 12 0 b QB bz rfl (aZ _) (λb1 b=>?_);refine aC ?_;have c1:=ptZ (b.get 5 rfl) q z;have c2:=ptZ (b.get 4 rfl) r G;go_wp2_with (first
  |(refine nF rfl 69 _ rfl w.heap.size 10 rfl (Ws C) _ c1 Qe rfl (by rw[sC];exact QB) ?_)
  |(refine nF rfl 69 _ rfl (w.heap.size+1) 10 rfl (Ws F) _ c2 Qe rfl (by rw[sF];exact QB) ?_))
 refine gv H6 λs k5=>?_
 replace b:=b.keep k5;clear k5 c1 c2;have hN:=b.new #[Qc QI 0,Qc QI 0,Qc QI 0,Qc QI 0,Qc QI 0] 69;have gz:=hN.get 0 rfl;dsimp only at gz;unfold Blk at gz;go_wp2_with (refine st t69 rfl rfl s.heap.size rfl rfl gz ap rfl (aZ _) ?_);replace b:WD w (w.heap.size) [(s.heap.size,Ws g,69),(q7,Ws t,69),(q5,Ws k,69),(q6,Ws l,69),(w.heap.size+1+1,Ws u,122),(w.heap.size+1,Ws (pt D E F),122),(w.heap.size,Ws (pt A B C),122)] ((s.alloc (QJ #[Qc QI 0,Qc QI 0,Qc QI 0,Qc QI 0,Qc QI 0] 69)).setRow s.heap.size (Ws g)):=hN.over 0 rfl (Ws g);clear hN gz;generalize (s.alloc (QJ #[Qc QI 0,Qc QI 0,Qc QI 0,Qc QI 0,Qc QI 0] 69)).setRow s.heap.size (Ws g)=w6 at b|-;generalize s.heap.size=q8 at b|-;replace b:=b.sub (l':=[(q8,Ws g,69),(q7,Ws t,69),(q5,Ws k,69),(q6,Ws l,69),(w.heap.size+1+1,Ws u,122)]) (List.sublist_append_left _ [_,_]);refine rgS [9,10] b.drew (λdd c=>?_);clear b;refine ar 0 39 t69 (λ_ h=>h.get 0 rfl) ap c ?_;refine ar 3 42 t69 (λ_ h=>h.get 2 rfl) bq c ?_;refine ar 5 44 t69 (λ_ h=>h.get 3 rfl) bs c ?_;try simp only[qQ]
 refine GU 2 [(1,40,Qa (Ws p)),(2,41,Qa (Ws Q)),(4,43,Qa (Ws R)),(6,45,Qa (Ws m))] 7 9 #[Qc QI 0,Qc QI 0,Qc QI 0,Qc QI 0,Qc QI 0] 69 8 10 #[Qc QI 0,Qc QI 0,Qc QI 0,Qc QI 0,Qc QI 0] 69 c ⟨vc H7,vc H8,vc H9,vc bt⟩ (λn' q9 cd dx b=>?_);clear c;simp only[kf,QG,QH,QC,QD,QE,QF,qQ];refine ltW 9 0 b QB bk rfl (aZ _) (λb2 b=>?_);refine ltW 10 1 b QB bb rfl (aZ _) (λb3 b=>?_);refine aC ?_;go_wp2_with fail;refine rgS [8,9] b.drew (λfd c=>?_);clear b;refine ar 0 46 t69 (λ_ h=>h.get 0 rfl) bk c ?_;refine ar 1 47 t69 (λ_ h=>h.get 1 rfl) bb c ?_;refine ar 3 49 t69 (λ_ h=>h.get 0 rfl) bk c ?_;simp only[qQ];refine ar 4 50 t69 (λ_ h=>h.get 1 rfl) bb c ?_;try simp only[qQ]
 refine GU 2 [(2,48,Qa (Ws o)),(5,51,Qa (Ws n))] 6 11 #[Qc QI 0,Qc QI 0,Qc QI 0,Qc QI 0,Qc QI 0] 69 7 12 #[Qc QI 0,Qc QI 0,Qc QI 0,Qc QI 0,Qc QI 0] 69 c ⟨vc J1,vc J2⟩ (λn' ce co fx b=>?_);clear c;simp only[kf,QG,QH,QC,QD,QE,QF,qQ];refine ltW 8 0 b QB bi rfl (aZ _) (λb4 b=>?_);refine ltW 9 1 b QB bh rfl (aZ _) (λb5 b=>?_);refine aC ?_;have HB:=Qh (Fw S T W J L M);go_wp2_with fail;refine rgS [16] b.drew (λmd c=>?_);clear b;refine ar 0 52 t69 (λ_ h=>h.get 4 rfl) ap c ?_;refine ar 1 53 t69 (λ_ h=>h.get 5 rfl) bz c ?_;refine ar 3 55 t69 (λ_ h=>h.get 1 rfl) bh c ?_;simp only[qQ];refine ar 5 57 t69 (λ_ h=>h.get 4 rfl) ap c ?_;refine ar 6 58 t69 (λ_ h=>h.get 7 rfl) bs c ?_;refine ar 7 59 t69 (λ_ h=>h.get 6 rfl) bq c ?_;simp only[qQ];refine ar 10 62 t69 (λ_ h=>h.get 0 rfl) bi c ?_;refine ar 12 64 t69 (λ_ h=>h.get 0 rfl) bi c ?_;refine ar 13 65 t69 (λ_ h=>h.get 1 rfl) bh c ?_;try simp only[qQ]
 refine aF 2 λK e=>?_
 go_simp;go_wp2_with (go_at_call 111;refine gv J3 λb6 f=>?_);have a3:=c.keep f;refine e.out _ _ a3 ?_;try simp only[qQ]
 clear e K f c;refine aF 4 λK e=>?_
 go_simp;go_wp2_with (go_at_call 111;refine gv J4 λb7 f=>?_);have a4:=a3.keep f;refine e.out _ _ a4 ?_;try simp only[qQ]
 clear e K f a3;refine aF 8 λK e=>?_
 go_simp;go_wp2_with (go_at_call 161;refine gv J5 λb8 f=>?_);have a5:=a4.keep f;refine e.out _ _ a5 ?_;try simp only[qQ]
 clear e K f a4;refine aF 9 λK e=>?_
 go_simp;go_wp2_with (go_at_call 111;refine gv J6 λb9 f=>?_);have a6:=a5.keep f;refine e.out _ _ a6 ?_;try simp only[qQ]
 clear e K f a5;refine aF 11 λK e=>?_
 go_simp;go_wp2_with (go_at_call 111;refine gv J7 λca f=>?_);have a7:=a6.keep f;refine e.out _ _ a7 ?_;try simp only[qQ]
 clear e K f a6;refine aF 14 λK e=>?_
 go_simp;go_wp2_with (go_at_call 111;refine gv J8 λcb f=>?_);have y:=a7.keep f;refine e.out _ _ y ?_;try simp only[qQ]
 clear e K f a7;refine ac 15 67 (v:=Qa (Ws (pt S T W))) y ?_ ?_
 .exact λa _=>uO 122 _ rfl [(0,Qa (Ws S)),(1,Qa (Ws T)),(2,Qa (Ws W))] rfl _ (HB.out a)
 simp only[qQ];generalize a1:pt S T W=LR at sR lR|-;replace a1:=Qh a1;refine ltW 16 8 y Tryz.infoP15 sR bX (aZ _) (λcc y=>?_);refine aC ?_;go_wp2;refine Qi (v:=Qa (Ws LR)) ?_ rfl ⟨by rw[a1.out],y.below⟩;exact rr r6 rfl rfl (y.get 8 rfl) sR
theorem WU(p:QP):bM p=pt p.x p.y p.z:=rfl
theorem Pt(a b:QP)(w:Qg)(c:QO a)(d:QO b):
  Rw 174 #[Qa (Ws (bM a)),Qa (Ws (bM b))] w (Qa (Ws (bM (dK a b)))):=by
 have:=aaX a.x a.y a.z b.x b.y b.z (bM (dK a b)) w c.1 c.2.1 c.2.2 d.1 d.2.1 d.2.2 (by
  show bM (dK a b)=_
  rw[WU,Ay,Ax,Aw];unfold tL tK rq pH yf pG xP xO;with_reducible rfl)
 exact this
theorem VH(w:Qg):(QQ 122 #[(0,Qa #[Qc QI 1738742601995546,Qc QI 1146398526822698,Qc QI 2070867633025821,Qc QI 562264141797630,Qc QI 587772402128613]),(1,Qa #[Qc QI 1801439850948184,Qc QI 1351079888211148,Qc QI 450359962737049,Qc QI 900719925474099,Qc QI 1801439850948198]),(2,Qa (Ws QM))]).run Qf w=.ok (Qa (Ws (bM QN))) w:=Qt w _ _ _ kr
theorem XO:(bM QN).length=15:=rfl
theorem Pv(w:Qg):Rw 115 #[] w (Qa (Ws (bM QN))):=by
 have k:=yZ;have f:=Qr UT;have c:=VH;have i:=XO;have j:=wJ;generalize Z15=d at k j;generalize QM=O at f c;generalize bM QN=R at c i|-;have e:=Wz i;have l:=Wz j;have b:=Blk.new w (Ws d) 122;have a:Below w.heap.size w (w.alloc (QJ (Ws d) 122)):=bR.alloc nR _;go_enter Tryz.func115,Tryz.ntmps115;go_wp2_with fail;generalize w.alloc (QJ (Ws d) 122)=m at b a|-;refine gv f λn h=>?_
 replace b:=b.keep h;replace a:=a.trans (h.mono a.size);have g:=b;unfold Blk at g;go_wp2_with (first
  |(refine nG rfl 122 _ rfl [(0,Qa #[Qc QI 1738742601995546,Qc QI 1146398526822698,Qc QI 2070867633025821,Qc QI 562264141797630,Qc QI 587772402128613]),(1,Qa #[Qc QI 1801439850948184,Qc QI 1351079888211148,Qc QI 450359962737049,Qc QI 900719925474099,Qc QI 1801439850948198]),(2,Qa (Ws O))] rfl _ (c _) ?_)
  |(refine Qq rfl 122 _ _ rfl w.heap.size _ rfl rfl 122 _ g (by rw[e];exact Tryz.infoP15) (by rw[e,l]) (aZ _) ?_))
 refine Qi (v:=Qa (Ws R)) ?_ rfl ⟨rfl,QA a oo _⟩;exact rr r6 rfl rfl (b.row _) e
theorem Cd{w:Qg}{b t:Nat}{L:Ql}(h:Blk w b (Ws L) t)(off:Nat)(a c d e f:Qv):
  w.setCells b off (Ws [a,c,d,e,f]).toList=w.setRow b (Ws (((((L.set off a).set (off+1) c).set (off+1+1) d).set (off+1+1+1) e).set (off+1+1+1+1) f)):=by
 show((((w.setCell ⟨b,off,none⟩ (Qc QI (U a))).setCell ⟨b,off+1,none⟩ (Qc QI (U c))).setCell ⟨b,off+1+1,none⟩ (Qc QI (U d))).setCell ⟨b,off+1+1+1,none⟩ (Qc QI (U e))).setCell ⟨b,off+1+1+1+1,none⟩ (Qc QI (U f))=_
 rw[h.set,eC,(h.row _).set,Qj,eC,(h.row _).set,Qj,eC,(h.row _).set,Qj,eC,(h.row _).set,Qj,eC]
theorem GT{w:Qg}{b t off:Nat}{L:Ql}(h:Blk w b (Ws L) t)(e:off+5<=L.length){a:Array Qn}(c:a.size=5):w.there b off a.size:=by
 rw[c];intro j d;refine⟨?_,h.frozen _⟩;rw[h.cell,cQ _ _ oo];rfl
theorem abp{w:Qg}{b t:Nat}{A B C V:Ql}(h:Blk w b (Ws (pt A B C)) t)(a:A.length=5)(c:V.length=5):w.setCells b 0 (Ws V).toList=w.setRow b (Ws (pt V B C)):=by
 obtain⟨d,e,f,g,i,rfl⟩:=bH V c;obtain⟨j,k,l,m,n,rfl⟩:=bH A a;exact Cd h 0 d e f g i
theorem abo{w:Qg}{b t:Nat}{A B C V:Ql}(h:Blk w b (Ws (pt A B C)) t)(a:A.length=5)(c:B.length=5)(d:V.length=5):w.setCells b 5 (Ws V).toList=w.setRow b (Ws (pt A V C)):=by
 obtain⟨e,f,g,i,j,rfl⟩:=bH V d;obtain⟨k,l,m,n,o,rfl⟩:=bH A a;obtain⟨p,q,r,s,u,rfl⟩:=bH B c;exact Cd h 5 e f g i j
theorem abn{w:Qg}{b t:Nat}{A B C V:Ql}(h:Blk w b (Ws (pt A B C)) t)(a:A.length=5)(c:B.length=5)(d:C.length=5)(e:V.length=5):w.setCells b 10 (Ws V).toList=w.setRow b (Ws (pt A B V)):=by
 obtain⟨f,g,i,j,k,rfl⟩:=bH V e;obtain⟨l,m,n,o,p,rfl⟩:=bH A a;obtain⟨q,r,s,u,v,rfl⟩:=bH B c;obtain⟨x,y,z,D,E,rfl⟩:=bH C d;exact Cd h 10 f g i j k
theorem WZ(a:Qv)(A B C D E F:Ql)(w:Qg)(p:A.length=5)(o:B.length=5)(k:C.length=5)(q:D.length=5)(z:E.length=5)(M:F.length=5):
  Rw 175 #[Qc QI (U a),Qa (Ws (pt A B C)),Qa (Ws (pt D E F))] w (Qa (Ws (pt (aY a A D).1 (aY a B E).1 (aY a C F).1))):=by
 have hz:=yZ;have sA:=Wz p;have sB:=Wz o;have sC:=Wz k;have sD:=Wz q;have sE:=Wz z;have sF:=Wz M;have I:=Qr λu=>Fd a A D u p q
 have d:(aY a A D).1.length=5:=by rw[aY,(dg _ _ _ _).1,p]
 generalize (aY a A D).1=i at I d|-;generalize (aY a A D).2=T1 at I;have X:=Wz d;have J:=Qr λu=>Fd a B E u o z
 have l:(aY a B E).1.length=5:=by rw[aY,(dg _ _ _ _).1,o]
 generalize (aY a B E).1=m at J l|-;generalize (aY a B E).2=T2 at J;have Z:=Wz l;have K:=Qr λu=>Fd a C F u k M
 have s:(aY a C F).1.length=5:=by rw[aY,(dg _ _ _ _).1,k]
 generalize (aY a C F).1=x at K s|-;generalize (aY a C F).2=T3 at K;have ab:=Wz s;have sZ:=wJ;generalize Z15=n at hz sZ;have ad:=Wz sZ;have T:=tr p o k;have W:=tr q z M;have b:WD w w.heap.size [(w.heap.size+1+1,Ws n,122),(w.heap.size+1,Ws (pt D E F),122),(w.heap.size,Ws (pt A B C),122)] (((w.alloc (QJ (Ws (pt A B C)) 122)).alloc (QJ (Ws (pt D E F)) 122)).alloc (QJ (Ws n) 122)):=by
  have h1:=(WD.start (w:=w)).new (Ws (pt A B C)) 122;have h2:=h1.new (Ws (pt D E F)) 122;rw[show (w.alloc (QJ (Ws (pt A B C)) 122)).heap.size=w.heap.size+1 by simp]at h2;have O:=h2.new (Ws n) 122;rw[show ((w.alloc (QJ (Ws (pt A B C)) 122)).alloc (QJ (Ws (pt D E F)) 122)).heap.size=w.heap.size+1+1 by simp]at O;exact O
 have e:=ptX (b.get 2 rfl);have f:=ptX (b.get 1 rfl);generalize G:Ws (pt A B C)=PA at T b e f|-;generalize H:Ws (pt D E F)=PB at W b e f|-;replace G:=Qh G;replace H:=Qh H;go_enter Tryz.func175,Tryz.ntmps175;go_wp2_with (first
  |(refine nF rfl 69 _ rfl w.heap.size 0 rfl (Ws A) _ e Qe rfl (by rw[sA];exact QB) ?_)
  |(refine nF rfl 69 _ rfl (w.heap.size+1) 0 rfl (Ws D) _ f Qe rfl (by rw[sD];exact QB) ?_))
 clear e f;rw[<-G.out,<-H.out]at b|-;clear T W G H;generalize ((w.alloc (QJ (Ws (pt A B C)) 122)).alloc (QJ (Ws (pt D E F)) 122)).alloc (QJ (Ws n) 122)=w1 at b|-;refine gv I λw2 Q=>?_
 replace b:=b.keep Q;clear Q;have h:=GT (off:=0) (b.get 2 rfl) (by rw[pm p o k];omega) X;have c:=abp (b.get 2 rfl) p d;dsimp only at h c;have g:WD w w.heap.size [(w.heap.size+1+1,Ws n,122),(w.heap.size+1,Ws (pt D E F),122),(w.heap.size,Ws (pt i B C),122)] (w2.setRow w.heap.size (Ws (pt i B C))):=b.over 2 rfl _;rw[<-c]at g;clear c;have e:=ptY (g.get 2 rfl) d;have f:=ptY (g.get 1 rfl) q;go_wp2_with (first
  |(refine Qk rfl 69 _ _ rfl w.heap.size 0 (Ws i) rfl rfl h (by rw[X];exact QB) (aZ _) ?_)
  |(refine nF rfl 69 _ rfl w.heap.size 5 rfl (Ws B) _ e Qe rfl (by rw[sB];exact QB) ?_)
  |(refine nF rfl 69 _ rfl (w.heap.size+1) 5 rfl (Ws E) _ f Qe rfl (by rw[sE];exact QB) ?_))
 clear e f h b;generalize w2.setCells w.heap.size 0 (Ws i).toList=w3 at g|-;refine gv J λw4 R=>?_
 replace g:=g.keep R;clear R;have h:=GT (off:=5) (g.get 2 rfl) (by rw[pm d o k];omega) Z;have c:=abo (g.get 2 rfl) d o l;dsimp only at h c;have j:WD w w.heap.size [(w.heap.size+1+1,Ws n,122),(w.heap.size+1,Ws (pt D E F),122),(w.heap.size,Ws (pt i m C),122)] (w4.setRow w.heap.size (Ws (pt i m C))):=g.over 2 rfl _;rw[<-c]at j;clear c;have e:=ptZ (j.get 2 rfl) d l;have f:=ptZ (j.get 1 rfl) q z;go_wp2_with (first
  |(refine Qk rfl 69 _ _ rfl w.heap.size 5 (Ws m) rfl rfl h (by rw[Z];exact QB) (aZ _) ?_)
  |(refine nF rfl 69 _ rfl w.heap.size 10 rfl (Ws C) _ e Qe rfl (by rw[sC];exact QB) ?_)
  |(refine nF rfl 69 _ rfl (w.heap.size+1) 10 rfl (Ws F) _ f Qe rfl (by rw[sF];exact QB) ?_))
 clear e f h g;generalize w4.setCells w.heap.size 5 (Ws m).toList=w5 at j|-;refine gv K λw6 S=>?_
 replace j:=j.keep S;clear S;have h:=GT (off:=10) (j.get 2 rfl) (by rw[pm d l k];omega) ab;have c:=abn (j.get 2 rfl) d l k s;dsimp only at h c;have r:WD w w.heap.size [(w.heap.size+1+1,Ws n,122),(w.heap.size+1,Ws (pt D E F),122),(w.heap.size,Ws (pt i m x),122)] (w6.setRow w.heap.size (Ws (pt i m x))):=j.over 2 rfl _;rw[<-c]at r;clear c;have t:=tr d l s;have lR:=pm d l s;have y:=r.get 2 rfl;have L:=r.get 0 rfl;dsimp only at y L;unfold Blk at y L;generalize hV:pt i m x=N at t lR y r|-;go_wp2_with (first
  |(refine Qk rfl 69 _ _ rfl w.heap.size 10 (Ws x) rfl rfl h (by rw[ab];exact QB) (aZ _) ?_)
  |(refine ld r6 rfl rfl w.heap.size rfl y t ?_)
  |(refine Qq rfl 122 _ _ rfl (w.heap.size+1+1) _ rfl rfl 122 _ L (by rw[t];exact Tryz.infoP15) (by rw[t,ad]) (aZ _) ?_))
 have P:=r.over 0 rfl (Ws N);refine Qi (v:=Qa (Ws N)) ?_ rfl ⟨by rw[hV],P.below⟩;exact rr r6 rfl rfl (P.get 0 rfl) t
theorem Zc(c:Qv)(a b:QP)(w:Qg)(d:QO a)(f:QO b):
  Rw 175 #[Qc QI (U c),Qa (Ws (bM a)),Qa (Ws (bM b))] w (Qa (Ws (bM (lI c a b)))):=by
 have:=WZ c a.x a.y a.z b.x b.y b.z w d.1 d.2.1 d.2.2 f.1 f.2.1 f.2.2;have e:bM (lI c a b)=pt (aY c a.x b.x).1 (aY c a.y b.y).1 (aY c a.z b.z).1:=by
  unfold lI bM pt;with_reducible rfl
 rw[e];exact this
theorem UV(A B C:Ql)(w:Qg)(f:A.length=5)(b:B.length=5)(g:C.length=5):
  Rw 189 #[Qa (Ws (pt A B C))] w (Qa (Ws (pt (fL A) B C))):=by
 have u:=yZ;have y:=Wz f;have z:=Wz b;have D:=Wz g;have n:=Qr λd=>Mo A d f
 have k:(fL A).length=5:=oz _;generalize fL A=V at n k|-;have s:=Qh (Fw V B C k b g);have r:=wJ;generalize Z15=j at u r;have E:=Wz r;have q:=tr f b g;have m:=tr k b g;have x:=pm k b g;have i:WD w w.heap.size [(w.heap.size+1,Ws j,122),(w.heap.size,Ws (pt A B C),122)] ((w.alloc (QJ (Ws (pt A B C)) 122)).alloc (QJ (Ws j) 122)):=by
  have t:=(WD.start (w:=w)).new (Ws (pt A B C)) 122;have h2:=t.new (Ws j) 122;rw[show (w.alloc (QJ (Ws (pt A B C)) 122)).heap.size=w.heap.size+1 by simp]at h2;exact h2
 generalize h:Ws (pt A B C)=F at q|-;replace h:=Qh h;rw[h.out]at i;go_enter Tryz.func189,Tryz.ntmps189;go_wp2_with fail;rw[<-h.out]at i|-;clear q h;generalize (w.alloc (QJ (Ws (pt A B C)) 122)).alloc (QJ (Ws j) 122)=I at i|-;refine rgS [8] i.drew (λnd a=>?_);clear i;refine ae 0 3 a ?_;refine ac 1 4 (v:=Qa (Ws A)) a ?_ ?_
 .exact λd e=>m8 69 _ rfl (w.heap.size) 0 rfl (Ws A) _ (ptX (e.get 1 rfl)) Qe rfl (by rw[y];exact QB)
 refine ae 3 6 a ?_;simp only[qQ];refine ac 4 7 (v:=Qa (Ws B)) a ?_ ?_
 .exact λd e=>m8 69 _ rfl (w.heap.size) 5 rfl (Ws B) _ (ptY (e.get 1 rfl) f) Qe rfl (by rw[z];exact QB)
 refine ae 5 8 a ?_;refine ac 6 9 (v:=Qa (Ws C)) a ?_ ?_
 .exact λd e=>m8 69 _ rfl (w.heap.size) 10 rfl (Ws C) _ (ptZ (e.get 1 rfl) f b) Qe rfl (by rw[D];exact QB)
 try simp only[qQ]
 refine aF 2 λK o=>?_
 go_simp;go_wp2_with (go_at_call 229;refine gv n λG p=>?_);have c:=a.keep p;refine o.out _ _ c ?_;try simp only[qQ]
 clear o K p a;refine ac 7 10 (v:=Qa (Ws (pt V B C))) c ?_ ?_
 .exact λd _=>uO 122 _ rfl [(0,Qa (Ws V)),(1,Qa (Ws B)),(2,Qa (Ws C))] rfl _ (s.out d)
 simp only[qQ];generalize l:pt V B C=LR at m x|-;replace l:=Qh l;refine ltW 8 0 c Tryz.infoP15 m E (aZ _) (λH c=>?_);refine aC ?_;go_wp2;refine Qi (v:=Qa (Ws LR)) ?_ rfl ⟨by rw[l.out],c.below⟩;exact rr r6 rfl rfl (c.get 0 rfl) m
theorem WY(a:QP)(w:Qg)(b:QO a):
  Rw 189 #[Qa (Ws (bM a))] w (Qa (Ws (bM (jG a)))):=by
 have:=UV a.x a.y a.z w b.1 b.2.1 b.2.2;have e:bM (jG a)=pt (fL a.x) a.y a.z:=by
  unfold jG bM pt;with_reducible rfl
 rw[e];exact this
end Go.Proofs.YtclpbaokadfhhaaGreatDoor
