import Derived.Test.YtclpbaokadfhhaaGreatDoorXj
set_option maxRecDepth 100000
set_option maxHeartbeats 20000000
open Go.Value renaming agg->Qa,int->Qc
open Go.Proofs.Tryz renaming underlying59->Qd,prog->Qe,underlying61->Qf
open List renaming foldl_cons->Qg,foldl_nil->Qi,map_cons->Qj,length_append->Qk,map_nil->Qm,cons_append->Qn,nil_append->Qo
open Go renaming World->Qp,Value->Qq,Program->Qt,Operand->Qx,run_build->Qy,wpList->Qz,execOp->QA,TypeId->QB,bodyPost_ret->QC
open Go.Proofs.YtclpbaokadfhhaaGreatDoor.Tryz renaming info16->QD
open Go.Instr renaming build->QE
open Go.Proofs.YtclpbaokadfhhaaGreatDoor renaming Fd_Good->QF,Fd_none16->QG
open Go.Obj renaming cells->QH
namespace Go.Proofs.YtclpbaokadfhhaaGreatDoor
open Go.RowKit
theorem Tryz.infoP64:(Qe.info? 61).map (·.size)=some 64:=kr
theorem t61:Ty 61 64:=⟨_,Qf,rfl,Tryz.infoP64⟩
theorem twN:Tw Qe 59 16:=⟨_,Qd,rfl,QD⟩
theorem twP:Tw Qe 61 64:=⟨_,Qf,rfl,Tryz.infoP64⟩
def bm(X Y Z T:List Int):List Int:=X++Y++Z++T
theorem jO{X Y Z T:List Int}(b:X.length=16)(c:Y.length=16)(d:Z.length=16)(a:T.length=16):(bm X Y Z T).length=64:=by simp[bm,b,c,d,a]
theorem Er(p:Rp_Pn):bc p=bm p.x p.y p.z p.t:=rfl
theorem yL{w:Qp}{b t:Nat}{X Y Z:List Int}(h:Blk w b (Ns (X++Y++Z)) t):w.rangeAt b X.length (Ns Y).toList:=by
 intro j v a;rw[h.cell];have c:j<Y.length:=by have:=(List.getElem?_eq_some_iff.1 a).1;simpa [Ns]using this
 rw[Array.getElem?_toList]at a;have e:(Ns (X++Y++Z))[X.length+j]? =(Ns Y)[j]? :=by
  simp only[Ns,List.getElem?_toArray,List.getElem?_map];rw[List.append_assoc,List.getElem?_append_right oo,Nat.add_sub_cancel_left,List.getElem?_append_left c]
 rw[e];exact a
theorem BE{w:Qp}{b t:Nat}{X Y Z T:List Int}(h:Blk w b (Ns (bm X Y Z T)) t):w.rangeAt b 0 (Ns X).toList:=by
 have:bm X Y Z T=[]++X++(Y++Z++T):=by simp[bm]
 rw[this]at h;exact yL h
theorem Es{w:Qp}{b t:Nat}{X Y Z T:List Int}(h:Blk w b (Ns (bm X Y Z T)) t)(a:X.length=16):w.rangeAt b 16 (Ns Y).toList:=by
 have:bm X Y Z T=X++Y++(Z++T):=by simp[bm]
 rw[this]at h;have:=yL h;rw[a]at this;exact this
theorem Ow{w:Qp}{b t:Nat}{X Y Z T:List Int}(h:Blk w b (Ns (bm X Y Z T)) t)(a:X.length=16)(c:Y.length=16):w.rangeAt b 32 (Ns Z).toList:=by
 have:bm X Y Z T=(X++Y)++Z++T:=by simp[bm]
 rw[this]at h;have:=yL h;rw[Qk,a,c]at this;exact this
theorem Ox{w:Qp}{b t:Nat}{X Y Z T:List Int}(h:Blk w b (Ns (bm X Y Z T)) t)(a:X.length=16)(c:Y.length=16)(d:Z.length=16):w.rangeAt b 48 (Ns T).toList:=by
 have:bm X Y Z T=(X++Y++Z)++T++ []:=by simp[bm]
 rw[this]at h;have:=yL h;rw[Qk,Qk,a,c,d]at this;exact this
theorem jY{P:Qt}{o:Oper}{a:Act}{w:Qp}(e:QB)(x:Qx)(j:o.op=.load e x)
  (b off:Nat) (l:a.eval x=.pointer (some ⟨b,off,none⟩)) (c:Array Qq) (d:TypeDesc) (f:w.rangeAt b off c.toList)
  (k:P.underlying e=some d) (g:d.isRow=true) (i:(P.info? e).map (·.size)=some c.size):
  (QA a.eval o).run P w=.ok (.value (Qa c)) w:=by
 have h:=run_loadVar_mid w b off e c.toList d f k g (by simpa using i);rw[Array.toArray_toList]at h;unfold QA;simp only[j,l,Instr.loadAt,Instr.sureAddr,Sem.run_bind,Sem.run_pure,Result.andThen_ok,h]
theorem jj{P:Qt}{f:Array Oper}{rest:List Oper}{o:Oper}{a:Act}{w:Qp}{Q:Exit->Act->Qp->Prop}(j:o.guard=none)(e:QB)(x:Qx)(l:o.op=.load e x)
  (b off:Nat) (n:a.eval x=.pointer (some ⟨b,off,none⟩)) (c:Array Qq) (d:TypeDesc) (g:w.rangeAt b off c.toList)
  (m:P.underlying e=some d) (i:d.isRow=true) (k:(P.info? e).map (·.size)=some c.size)
  (h:Qz P f Q rest (a.put o.dst (Qa c)) w):Qz P f Q (o::rest) a w:=
 wpList_load_mid j e x l b off n c.toList d g m i (by simpa using k) (by rw[Array.toArray_toList];exact h)
theorem dC{P:Qt}{o:Oper}{a:Act}{w:Qp}(t:QB)(b:List (Nat×Qx))(f:o.op=.build t b.toArray)(c:List (Nat×Qq))(g:b.map (λp=>(p.1,a.eval p.2))=c)
  (d:Array Qq) (h:(QE t c.toArray).run P w=.ok (Qa d) w):(QA a.eval o).run P w=.ok (.value (Qa d)) w:=by
 have e:(b.toArray.map λ(i,x)=>(i,a.eval x))=c.toArray:=by rw[<-g];simp
 unfold QA;simp only[f,e,Sem.run_bind,Sem.run_pure,Result.andThen_ok,h]
theorem iA{P:Qt}{e:Array Oper}{rest:List Oper}{o:Oper}{a:Act}{w:Qp}{Q:Exit->Act->Qp->Prop}(g:o.guard=none)(t:QB)(c:List (Nat×Qx))(i:o.op=.build t c.toArray)
  (d:List (Nat×Qq)) (k:c.map (λp=>(p.1,a.eval p.2))=d) (b:Array Qq) (h:(QE t d.toArray).run P w=.ok (Qa b) w)
  (j:Qz P e Q rest (a.put o.dst (Qa b)) w):Qz P e Q (o::rest) a w:=
 wpList_plain g λK f=>by
  unfold Oper.wp;rw[dC t c i d k b h];exact f _ _ j
theorem yG(l:List Int)(h:l.length=16):∃a b c d e f g r i j k m n o p q,l=[a,b,c,d,e,f,g,r,i,j,k,m,n,o,p,q]:=by
 match l,h with
 | [a,b,c,d,e,f,g,r,i,j,k,m,n,o,p,q],_=>exact⟨_,_,_,_,_,_,_,_,_,_,_,_,_,_,_,_,rfl⟩
theorem kK(w:Qp)(o:Obj):(w.alloc o).heap.size=w.heap.size+1:=ss
def Rp_Z64:List Int:=List.replicate 64 0
theorem rg:Rp_Z64.length=64:=rfl
theorem sq(w:Qp):Sem.run Qe (zeroValue 61) w=.ok (Qa (Ns Rp_Z64)) w:=kr
theorem II(w:Qp):(QE 61 #[]).run Qe w=.ok (Qa (Ns Rp_Z64)) w:=Qy w _ _ _ kr
theorem yo(a b:Int)(w:Qp):(QE 59 #[(0,Qc .i64 a),(1,Qc .i64 b)]).run Qe w=.ok (Qa (Ns (iR a b))) w:=Qy w _ _ _ kr
theorem tv(X Y Z T:List Int)(b:X.length=16)(c:Y.length=16)(d:Z.length=16)(a:T.length=16)(w:Qp):
  (QE 61 #[(0,Qa (Ns X)),(1,Qa (Ns Y)),(2,Qa (Ns Z)),(3,Qa (Ns T))]).run Qe w=.ok (Qa (Ns (bm X Y Z T))) w:=by
 obtain⟨e,f,m,n,o,p,q,r,s,t,g,h,i,j,k,l,rfl⟩:=yG X b;obtain⟨u,v,D,E,F,G,H,I,J,K,x,y,z,A,B,C,rfl⟩:=yG Y c;obtain⟨L,M,W,c3,c4,c5,c6,c7,c8,c9,N,O,P,Q,R,S,rfl⟩:=yG Z d;obtain⟨d0,d1,d2,d3,d4,d5,d6,d7,d8,d9,ab,ad,ag,ah,an,ao,rfl⟩:=yG T a;exact Qy w _ _ _ kr
theorem gP(a b:List Int)(c:QF a)(d:QF b)(w:Qp):Rw 84 #[Qa (Ns a),Qa (Ns b)] w (Qa (Ns (af a b))):=Ik a b w c.1 d.1 c.bd d.bd
theorem oq(a b:List Int)(c:QF a)(d:QF b)(w:Qp):Rw 80 #[Qa (Ns a),Qa (Ns b)] w (Qa (Ns (aJ a b))):=Xq a b w c.1 d.1 c.bd' d.bd'
theorem kB(a b:List Int)(c:QF a)(d:QF b)(w:Qp):Rw 140 #[Qa (Ns a),Qa (Ns b)] w (Qa (Ns (au a b))):=Vr a b w c.1 d.1 c.bd' d.bd'
theorem IL(a:List Int)(b:QF a)(w:Qp):Rw 87 #[Qa (Ns a)] w (.string ⟨(bF a).toArray⟩):=Cb a w b.1 b.bd2
def kI(a:List Int):Bool:=(((bF a).getD 0 0).toNat:Int)%2==1
def rW(a b:List Int):Bool:=decide (bF a=bF b)
theorem IP(a:List Int)(c:QF a)(w:Qp):Rw 88 #[Qa (Ns a)] w (.bool (kI a)):=by
 refine(ZJ a w c.1 c.bd2).mono ?_;rintro e w' ⟨b,rfl,d,h⟩;refine⟨?_,h⟩;have:b=kI a:=by unfold kI;exact d
 rw[this]
theorem Wj(a b:List Int)(d:QF a)(f:QF b)(w:Qp):Rw 146 #[Qa (Ns a),Qa (Ns b)] w (.bool (rW a b)):=by
 refine(Xj a b w d.1 d.bd2 f.1 f.bd2).mono ?_;rintro e w' ⟨q,rfl,g,h⟩;refine⟨?_,h⟩;have:q=rW a b:=by
  unfold rW;by_cases c:bF a=bF b
  .rw[decide_eq_true c];exact g.2 c
  .rw[decide_eq_false c];cases q with
   |false=>rfl
   |true=>exact absurd (g.1 rfl) c
 rw[this]
theorem Hi(w:Qp):Rw 79 #[] w (Qa (Ns fA)):=by
 have z:=oe;have m:=Qr (mL 0)
 have h:=f8;generalize i:am 0=O at m h;replace i:=Qh i;have k:Hid (∀c:Qp,(QE 59 #[(0,Qc .i64 56129),(1,Qc .i64 1)]).run Qe c=.ok (Qa (Ns (iR 56129 1))) c):=yo _ _;have l:Hid (∀c:Qp,(QE 59 #[(0,Qc .i64 56130),(1,Qc .i64 1)]).run Qe c=.ok (Qa (Ns (iR 56130 1))) c):=yo _ _;have f:=sy 56129 1 oo oo;have g:=sy 56130 1 oo oo;have b:Hid (fA=af (au (am 0) (iR 56129 1)) (fh (iR 56130 1))):=rfl;rw[i.out]at b;clear i;generalize fA=R at b|-;generalize iR 56129 1=M at k f b;generalize iR 56130 1=N at l g b;have n:=Qr (kB O M h f)
 have d:=bl O M h f;generalize au O M=A at n d b;have o:=Qr λc=>tS N c g
 have e:=j8 N g;generalize fh N=B at o e b;have p:=Qr (gP A B d e)
 have j:=aA A B d e;generalize af A B=y at p j b;have t:=b.out;subst t;clear b;have q:=Nz d.1;have r:=Nz e.1;have s:=Nz j.1;clear h f g d e j;have a:=(WD.start (w:=w)).new (Ns QG) 59;go_enter Tryz.func79,Tryz.ntmps79;go_wp2_with fail;generalize w.alloc (QH (Ns QG) 59)=H at a|-;refine gvW a m (λI a=>?_);go_wp2_with (first
  |(refine iA rfl 59 _ rfl [(0,Qc .i64 56129),(1,Qc .i64 1)] rfl _ (k.out _) ?_))
 refine gvW a n (λu a=>?_);go_wp2_with (first
  |(refine asW a twN q rfl (aK _) (λE a=>?_);generalize u.heap.size=C at a|-)
  |(refine iA rfl 59 _ rfl [(0,Qc .i64 56130),(1,Qc .i64 1)] rfl _ (l.out _) ?_))
 refine gvW a o (λx a=>?_);go_wp2_with (first
  |(refine asW a twN r rfl (aK _) (λF a=>?_);generalize x.heap.size=D at a|-)
  |(refine ldW 1 a twN q ?_)
  |(refine ldW 0 a twN r ?_))
 refine gvW a p (λJ a=>?_);go_wp2_with (first
  |(refine stW 2 a twN s rfl (aK _) (λG a=>?_)))
 refine QC (v:=Qa (Ns R)) ?_ rfl ⟨rfl,a.below⟩;exact rr t59 rfl rfl (a.get 2 rfl) s
theorem acb(d f l i e g m j r M N A O P B L C I D E F G H o p q n:List Int)(w:Qp)
  (s:d.length=16) (J:f.length=16) (W:l.length=16) (ag:i.length=16) (t:e.length=16) (K:g.length=16) (X:m.length=16) (ah:j.length=16) (a2:r.length=16)
  (hA:A.length=16) (hB:B.length=16) (hC:C.length=16) (a1:I.length=16) (hD:D.length=16) (hE:E.length=16) (hF:F.length=16) (hG:G.length=16) (hH:H.length=16) (R:o.length=16) (S:p.length=16) (T:q.length=16) (Q:n.length=16)
  (H1:Hid (Rv 140 #[Qa (Ns f),Qa (Ns d)] (Qa (Ns M))))
  (H2:Hid (Rv 140 #[Qa (Ns g),Qa (Ns e)] (Qa (Ns N))))
  (H3:Hid (Rv 84 #[Qa (Ns M),Qa (Ns N)] (Qa (Ns A))))
  (H4:Hid (Rv 80 #[Qa (Ns f),Qa (Ns d)] (Qa (Ns O))))
  (H5:Hid (Rv 80 #[Qa (Ns g),Qa (Ns e)] (Qa (Ns P))))
  (H6:Hid (Rv 84 #[Qa (Ns O),Qa (Ns P)] (Qa (Ns B))))
  (H7:Hid (Rv 84 #[Qa (Ns i),Qa (Ns r)] (Qa (Ns L))))
  (H8:Hid (Rv 84 #[Qa (Ns L),Qa (Ns j)] (Qa (Ns C))))
  (H9:Hid (Rv 84 #[Qa (Ns l),Qa (Ns m)] (Qa (Ns I))))
  (J1:Hid (Rv 80 #[Qa (Ns I),Qa (Ns I)] (Qa (Ns D))))
  (J2:Hid (Rv 140 #[Qa (Ns B),Qa (Ns A)] (Qa (Ns E))))
  (J3:Hid (Rv 140 #[Qa (Ns D),Qa (Ns C)] (Qa (Ns F))))
  (J4:Hid (Rv 80 #[Qa (Ns D),Qa (Ns C)] (Qa (Ns G))))
  (J5:Hid (Rv 80 #[Qa (Ns B),Qa (Ns A)] (Qa (Ns H))))
  (J6:Hid (Rv 84 #[Qa (Ns E),Qa (Ns F)] (Qa (Ns o))))
  (J7:Hid (Rv 84 #[Qa (Ns G),Qa (Ns H)] (Qa (Ns p))))
  (J8:Hid (Rv 84 #[Qa (Ns F),Qa (Ns G)] (Qa (Ns q))))
  (J9:Hid (Rv 84 #[Qa (Ns E),Qa (Ns H)] (Qa (Ns n)))):
  Rw 82 #[Qa (Ns (bm d f l i)),Qa (Ns (bm e g m j)),Qa (Ns r)] w (Qa (Ns (bm o p q n))):=by
 have hz:=oe;have a3:=sq;have ap:=Nz s;have az:=Nz J;have bh:=Nz W;have a8:=Nz ag;have ay:=Nz t;have a0:=Nz K;have bi:=Nz X;have a9:=Nz ah;have ba:=Nz a2;have sA:=Nz hA;have sB:=Nz hB;have sC:=Nz hC;have ab:=Nz a1;have sD:=Nz hD;have sE:=Nz hE;have sF:=Nz hF;have sG:=Nz hG;have sH:=Nz hH;have b2:=Nz R;have b3:=Nz S;have b4:=Nz T;have b1:=Nz Q;have HB:=Qh (tv o p q n R S T Q);have an:=jO R S T Q;generalize bm o p q n=RR at HB an|-;have ao:=Nz an;have sZ:=rg;generalize Rp_Z64=x at a3 sZ;have bb:=Nz sZ;have sP:(Ns (bm d f l i)).size=64:=by rw[jn,jO s J W ag]
 have sQ:(Ns (bm e g m j)).size=64:=by rw[jn,jO t K X ah]
 have a:WD w w.heap.size [(w.heap.size+1+1+1,Ns x,61),(w.heap.size+1+1,Ns r,59),(w.heap.size+1,Ns (bm e g m j),61),(w.heap.size,Ns (bm d f l i),61)] ((((w.alloc (QH (Ns (bm d f l i)) 61)).alloc (QH (Ns (bm e g m j)) 61)).alloc (QH (Ns r) 59)).alloc (QH (Ns x) 61)):=by
  have h1:=(WD.start (w:=w)).new (Ns (bm d f l i)) 61;have h2:=h1.new (Ns (bm e g m j)) 61;rw[kK]at h2;have h3:=h2.new (Ns r) 59;rw[kK,kK]at h3;have h4:=h3.new (Ns x) 61;rw[kK,kK,kK]at h4;exact h4
 generalize y:Ns (bm d f l i)=PA at sP|-;replace y:=Qh y;generalize z:Ns (bm e g m j)=PB at sQ|-;replace z:=Qh z;rw[y.out,z.out]at a;go_enter Tryz.func82,Tryz.ntmps82;go_wp2_with fail;rw[<-y.out,<-z.out]at a|-;clear sP sQ y z;generalize (((w.alloc (QH (Ns (bm d f l i)) 61)).alloc (QH (Ns (bm e g m j)) 61)).alloc (QH (Ns r) 59)).alloc (QH (Ns x) 61)=w1 at a|-;refine rgS [12] a.drew (λad b=>?_);clear a;refine ae 0 15 b ?_;refine ac 1 16 (v:=Qa (Ns f)) b ?_ ?_
 .exact λk c=>jY 59 _ rfl (w.heap.size) 16 rfl (Ns f) _ (Es (c.get 3 rfl) s) Qd rfl (by rw[az];exact QD)
 refine ae 2 17 b ?_;simp only[qQ];refine ac 3 18 (v:=Qa (Ns d)) b ?_ ?_
 .exact λk c=>jY 59 _ rfl (w.heap.size) 0 rfl (Ns d) _ (BE (c.get 3 rfl)) Qd rfl (by rw[ap];exact QD)
 refine ae 5 20 b ?_;refine ac 6 21 (v:=Qa (Ns g)) b ?_ ?_
 .exact λk c=>jY 59 _ rfl (w.heap.size+1) 16 rfl (Ns g) _ (Es (c.get 2 rfl) t) Qd rfl (by rw[a0];exact QD)
 simp only[qQ];refine ae 7 22 b ?_;refine ac 8 23 (v:=Qa (Ns e)) b ?_ ?_
 .exact λk c=>jY 59 _ rfl (w.heap.size+1) 0 rfl (Ns e) _ (BE (c.get 2 rfl)) Qd rfl (by rw[ay];exact QD)
 try simp only[qQ]
 refine yh 1 [(4,19,Qa (Ns M)),(9,24,Qa (Ns N)),(10,25,Qa (Ns A))] 11 7 (Ns QG) 59 b ⟨vc H1,vc H2,vc H3⟩ (λZ q7 ax a=>?_);clear b;simp only[kf,Qj,Qm,Qn,Qo,Qg,Qi,qQ];refine ltW 12 0 a QD sA rfl (aK _) (λbt a=>?_);refine aC ?_;go_wp2_with fail;refine rgS [12] a.drew (λbd b=>?_);clear a;refine ae 0 26 b ?_;refine ac 1 27 (v:=Qa (Ns f)) b ?_ ?_
 .exact λk c=>jY 59 _ rfl (w.heap.size) 16 rfl (Ns f) _ (Es (c.get 4 rfl) s) Qd rfl (by rw[az];exact QD)
 refine ae 2 28 b ?_;simp only[qQ];refine ac 3 29 (v:=Qa (Ns d)) b ?_ ?_
 .exact λk c=>jY 59 _ rfl (w.heap.size) 0 rfl (Ns d) _ (BE (c.get 4 rfl)) Qd rfl (by rw[ap];exact QD)
 refine ae 5 31 b ?_;refine ac 6 32 (v:=Qa (Ns g)) b ?_ ?_
 .exact λk c=>jY 59 _ rfl (w.heap.size+1) 16 rfl (Ns g) _ (Es (c.get 3 rfl) t) Qd rfl (by rw[a0];exact QD)
 simp only[qQ];refine ae 7 33 b ?_;refine ac 8 34 (v:=Qa (Ns e)) b ?_ ?_
 .exact λk c=>jY 59 _ rfl (w.heap.size+1) 0 rfl (Ns e) _ (BE (c.get 3 rfl)) Qd rfl (by rw[ay];exact QD)
 try simp only[qQ]
 refine yh 1 [(4,30,Qa (Ns O)),(9,35,Qa (Ns P)),(10,36,Qa (Ns B))] 11 8 (Ns QG) 59 b ⟨vc H4,vc H5,vc H6⟩ (λZ q8 bx a=>?_);clear b;simp only[kf,Qj,Qm,Qn,Qo,Qg,Qi,qQ];refine ltW 12 0 a QD sB rfl (aK _) (λbz a=>?_);refine aC ?_;go_wp2_with fail;refine rgS [8] a.drew (λcd b=>?_);clear a;refine ae 0 37 b ?_;refine ac 1 38 (v:=Qa (Ns i)) b ?_ ?_
 .exact λk c=>jY 59 _ rfl (w.heap.size) 48 rfl (Ns i) _ (Ox (c.get 5 rfl) s J W) Qd rfl (by rw[a8];exact QD)
 refine ar 2 39 t59 (λ_ h=>h.get 3 rfl) ba b ?_;simp only[qQ];refine ae 4 41 b ?_;refine ac 5 42 (v:=Qa (Ns j)) b ?_ ?_
 .exact λk c=>jY 59 _ rfl (w.heap.size+1) 48 rfl (Ns j) _ (Ox (c.get 4 rfl) t K X) Qd rfl (by rw[a9];exact QD)
 try simp only[qQ]
 refine yh 1 [(3,40,Qa (Ns L)),(6,43,Qa (Ns C))] 7 9 (Ns QG) 59 b ⟨vc H7,vc H8⟩ (λZ q9 cx a=>?_);clear b;simp only[kf,Qj,Qm,Qn,Qo,Qg,Qi,qQ];refine ltW 8 0 a QD sC rfl (aK _) (λbX a=>?_);refine aC ?_;have c1:=Ow (a.get 6 rfl) s J;have c2:=Ow (a.get 5 rfl) t K;go_wp2_with (first
  |(refine jj rfl 59 _ rfl (w.heap.size) 32 rfl (Ns l) _ c1 Qd rfl (by rw[bh];exact QD) ?_)
  |(refine jj rfl 59 _ rfl (w.heap.size+1) 32 rfl (Ns m) _ c2 Qd rfl (by rw[bi];exact QD) ?_))
 clear c1 c2;refine gvW a H9 (λx3 a=>?_);go_wp2_with (first
  |(refine asW a twN ab rfl (aK _) (λv4 a=>?_);generalize x3.heap.size=b0 at a|-)
  |(refine ldW 0 a twN ab ?_))
 refine gvW a J1 (λx5 a=>?_);go_wp2_with (first
  |(refine stW 0 a twN sD ab (aK _) (λv6 a=>?_))
  |(refine ldW 2 a twN sB ?_)
  |(refine ldW 3 a twN sA ?_))
 refine gvW a J2 (λx7 a=>?_);go_wp2_with (first
  |(refine asW a twN sE rfl (aK _) (λv8 a=>?_);generalize x7.heap.size=a4 at a|-)
  |(refine ldW 1 a twN sD ?_)
  |(refine ldW 2 a twN sC ?_))
 refine gvW a J3 (λx9 a=>?_);go_wp2_with (first
  |(refine asW a twN sF rfl (aK _) (λb5 a=>?_);generalize x9.heap.size=a5 at a|-)
  |(refine ldW 2 a twN sD ?_)
  |(refine ldW 3 a twN sC ?_))
 refine gvW a J4 (λbq a=>?_);go_wp2_with (first
  |(refine asW a twN sG rfl (aK _) (λb6 a=>?_);generalize bq.heap.size=a6 at a|-)
  |(refine ldW 5 a twN sB ?_)
  |(refine ldW 6 a twN sA ?_))
 refine gvW a J5 (λbs a=>?_);go_wp2_with (first
  |(refine asW a twN sH rfl (aK _) (λbk a=>?_);generalize bs.heap.size=a7 at a|-))
 replace a:WD w (w.heap.size) [(a7,Ns H,59),(a6,Ns G,59),(a5,Ns F,59),(a4,Ns E,59),(w.heap.size+1+1+1,Ns x,61)] bk:=a.sub ss;refine rgS [13] a.drew (λdd b=>?_);clear a;refine ar 0 64 t59 (λ_ h=>h.get 3 rfl) sE b ?_;refine ar 1 65 t59 (λ_ h=>h.get 2 rfl) sF b ?_;refine ar 3 67 t59 (λ_ h=>h.get 1 rfl) sG b ?_;simp only[qQ];refine ar 4 68 t59 (λ_ h=>h.get 0 rfl) sH b ?_;refine ar 6 70 t59 (λ_ h=>h.get 2 rfl) sF b ?_;refine ar 7 71 t59 (λ_ h=>h.get 1 rfl) sG b ?_;simp only[qQ];refine ar 9 73 t59 (λ_ h=>h.get 3 rfl) sE b ?_;refine ar 10 74 t59 (λ_ h=>h.get 0 rfl) sH b ?_;try simp only[qQ]
 refine Cf 1 [(2,66,Qa (Ns o)),(5,69,Qa (Ns p)),(8,72,Qa (Ns q)),(11,75,Qa (Ns n)),(12,76,Qa (Ns RR))] b ⟨vc J6,vc J7,vc J8,vc J9,vm (λu k=>dC 61 _ rfl [(0,Qa (Ns o)),(1,Qa (Ns p)),(2,Qa (Ns q)),(3,Qa (Ns n))] kr _ (HB.out k))⟩ (λZ dx a=>?_);clear b;simp only[kf,Qj,Qm,Qg,Qi,qQ];refine ltW 13 4 a Tryz.infoP64 ao bb (aK _) (λbY a=>?_);refine aC ?_;go_wp2;refine QC (v:=Qa (Ns RR)) ?_ rfl ⟨rfl,a.below⟩;exact rr t61 rfl rfl (a.get 4 rfl) ao
theorem Uc(p q:Rp_Pn)(d:List Int)(b:Rp_Fine p)(c:Rp_Fine q)(ht:QF d)(w:Qp):
  Rw 82 #[Qa (Ns (bc p)),Qa (Ns (bc q)),Qa (Ns d)] w (Qa (Ns (bc (iO p q d)))):=by
 obtain⟨f,g,h,i,j,k,l,m⟩:=Hf b c ht;obtain⟨o,r,s,n⟩:=oC b c ht;have e:=aA _ _ b.2.2.1 c.2.2.1;rw[Er p,Er q,Er (iO p q d)];rw[Hd]at o|-;rw[Hc]at r|-;rw[Hb]at s|-;rw[He]at n|-;have u:=bl _ _ b.2.1 b.1;have v:=bl _ _ c.2.1 c.1;have x:=cD _ _ b.2.1 b.1;have y:=cD _ _ c.2.1 c.1;have t:=aA _ _ b.2.2.2 ht;exact acb p.x p.y p.z p.t q.x q.y q.z q.t d (au p.y p.x) (au q.y q.x) (CJ p q) (aJ p.y p.x) (aJ q.y q.x) (CI p q) (af p.t d) (CG p q d) (af p.z q.z) (CF p q) (yK p q) (yJ p q d) (yI p q d) (yH p q) _ _ _ _ w
  b.1.1 b.2.1.1 b.2.2.1.1 b.2.2.2.1 c.1.1 c.2.1.1 c.2.2.1.1 c.2.2.2.1 ht.1 f.1 g.1 h.1 e.1 i.1 j.1 k.1 l.1 m.1 o.1 r.1 s.1 n.1
  (λa=>kB _ _ b.2.1 b.1 a) (λa=>kB _ _ c.2.1 c.1 a) (λa=>gP _ _ u v a)
  (λa=>oq _ _ b.2.1 b.1 a) (λa=>oq _ _ c.2.1 c.1 a) (λa=>gP _ _ x y a)
  (λa=>gP _ _ b.2.2.2 ht a) (λa=>gP _ _ t c.2.2.2 a) (λa=>gP _ _ b.2.2.1 c.2.2.1 a) (λa=>oq _ _ e e a)
  (λa=>kB _ _ g f a) (λa=>kB _ _ i h a) (λa=>oq _ _ i h a) (λa=>oq _ _ g f a)
  (λa=>gP _ _ j k a) (λa=>gP _ _ l m a) (λa=>gP _ _ k l a) (λa=>gP _ _ j m a)
end Go.Proofs.YtclpbaokadfhhaaGreatDoor
