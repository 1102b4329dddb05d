import Derived.Test.YtclpbaokadfhhaaGreatDoorYc
set_option maxRecDepth 100000
set_option maxHeartbeats 8000000
open Go.Value renaming string->Qa,int->Qc,agg->Qd,bool->Qe,slice->Qf,tuple->Qg
open Go.IntKind renaming u64->Qi,i64->Qj
open Go.Obj renaming cells->Qk
open Go renaming World->Qm,wpList_store_row->Qn,Calls->Qo,bodyPost_ret->Qp
open Go.Proofs.Tryz renaming prog->Qq,ntmps101->Qt,func101->Qx
open Go.Proofs.YtclpbaokadfhhaaGreatDoor renaming Cv_base->Qy,Sg_first->Qz,Ff_one5->QA,Ff_factor->QB
open List renaming length_drop->QC,cons_append->QD,nil_append->QE,foldl_cons->QF,foldl_nil->QG,map_cons->QH,map_nil->QI
open ByteArray renaming size_append->QJ,data_extract->QL,ext->QM,data_append->QN
open Go.Ending renaming returned->QO
open Go.Op renaming stringOp->QP
namespace Go.Proofs.YtclpbaokadfhhaaGreatDoor
open Go.RowKit
theorem acT(b:UInt8):(b.toNat:Int)/128=((b>>>7).toNat:Int):=by
 rw[UInt8.toNat_shiftRight];show _=((b.toNat>>>((7:UInt8).toNat%8):Nat):Int)
 rw[show (7:UInt8).toNat%8=7 from rfl,Nat.shiftRight_eq_div_pow];omega
theorem Fs{T:Qu}{s:Qb}:(⟨T.toArray⟩:ByteArray)=s↔T=s.data.toList:=by
 constructor
 .intro h;rw[<-h]
 .intro h;rw[h]
theorem MY{X Y Z:Ql}(a:X.length=5)(b:Y.length=5)(c:Z.length=5):Cv_Ok ⟨X,Y,Z⟩:=⟨a,b,c⟩
theorem Ky(X Y Z:Ql)(w:Qm)(a:X.length=5)(b:Y.length=5)(c:Z.length=5):
  Rw 117 #[Qd (Ws (pt X Y Z))] w (Qa ⟨(bJ ⟨X,Y,Z⟩).toArray⟩):=FJ ⟨X,Y,Z⟩ w (MY a b c)
theorem Vg(X Y Z:Ql):bM ⟨X,Y,Z⟩=pt X Y Z:=rfl
theorem ads(s:Qb)(w:Qm)(hs:s.size=32):
  Rw 188 #[Qa s] w (Qg #[Qd (Ws (bM (jF s.data.toList).1)),Qe (jF s.data.toList).2]):=by
 have r:(ej s.data.toList).length=5:=rfl;have S:=λa=>aci s a hs
 have ab:=Cl s 31 oo;have g:mK s.data.toList=⟨lH (ef (fM (ej s.data.toList))).1 (s.data.toList.getD 31 0>>>7),ej s.data.toList,QA⟩:=by unfold mK;with_reducible rfl
 have j:jF s.data.toList=if (ef (fM (ej s.data.toList))).2=true then(if bJ (mK s.data.toList)=s.data.toList then(mK s.data.toList,true)else (zQ,false))else (zQ,false):=by unfold jF;with_reducible rfl
 have E:=acT (s.data.toList.getD 31 0);generalize jF s.data.toList=ax at j|-;generalize mK s.data.toList=l at j g;generalize ej s.data.toList=Y at r S g j;generalize s.data.toList.getD 31 0>>>7=k at g E;generalize s.data.toList.getD 31 0=ap at ab E;have f:fM Y=aa (aL (aa Y Y) QA) (bN (aI (aa QB (aa Y Y)) QA)):=by unfold fM;with_reducible rfl
 have J:(fM Y).length=5:=Ks _;have n:QA.length=5:=rfl;have lF:QB.length=5:=rfl;have M:=UT;have O:=Pu;generalize QA=b at f n M g;generalize QB=v at f lF O;have t:=aw Y Y;have L:=λa=>oY Y a r
 generalize aa Y Y=i at f t L;have lM:(aL i b).length=5:=by rw[my,t]
 have N:=λa=>xg i b a t n
 generalize aL i b=Z at f lM N;have H:=aw v i;have P:=λa=>eE v i a lF t
 generalize aa v i=y at f H P;have ad:(aI y b).length=5:=by rw[lz,H]
 have Q:=λa=>yd y b a H n
 generalize aI y b=x at f ad Q;have ag:=tP x;have R:=λa=>Fe x a ad
 generalize bN x=T at f ag R;have A:=λa=>eE Z T a lM ag
 rw[<-f]at A;clear f;generalize fM Y=o at J A g j;have q:=BV o;have D:=λa=>ach o a J
 generalize (ef o).1=c at D g q;generalize (ef o).2=ah at D j;have I:=oz c;have W:=λa=>GD c a q
 have X:=λa=>Mo c a q
 have p:io c=k->l=⟨c,Y,b⟩:=λh=>by rw[g,lH,if_pos h]
 have m:¬io c=k->l=⟨fL c,Y,b⟩:=λh=>by rw[g,lH,if_neg h]
 clear g;generalize io c=u at W p m;generalize fL c=z at I X m;have B:=λa=>Ky c Y b a q r n
 have C:=λa=>Ky z Y b a I r n
 have an:u=k->bM l=pt c Y b:=λh=>by rw[p h,Vg]
 have ao:¬u=k->bM l=pt z Y b:=λh=>by rw[m h,Vg]
 generalize Cv_Pn.mk c Y b=p1 at B p;generalize Cv_Pn.mk z Y b=p2 at C m;have F:u=k->bJ l=bJ p1:=λh=>by rw[p h]
 have G:¬u=k->bJ l=bJ p2:=λh=>by rw[m h]
 clear p m;generalize bJ p1=B1 at B F;generalize bJ p2=B2 at C G;have K:Z15=bM zQ:=rfl;rw[j];clear j;refine acQ s Y i b Z v y x T o c z ah u k ap ⟨B1.toArray⟩ ⟨B2.toArray⟩ _ w ab E S L M N O P Q R A D W X B C r t n J q I ?_ ?_ ?_ ?_ ?_
 .intro h;rw[h,if_neg dd,K]
 .intro h d h2;rw[h,if_pos rfl,F d,if_pos (Fs.1 h2),an d]
 .intro h d h2;rw[h,if_pos rfl,F d,if_neg (λe=>h2 (Fs.2 e)),K]
 .intro h d h2;rw[h,if_pos rfl,G d,if_pos (Fs.1 h2),ao d]
 .intro h d h2;rw[h,if_pos rfl,G d,if_neg (λe=>h2 (Fs.2 e)),K]
theorem m9(a b:Qb):(a++b).data.toList=a.data.toList++b.data.toList:=by rw[QN,Array.toList_append]
theorem Ie(x y:Qb)(h:x.size+y.size<=9223372036854775807):QP .add x y=pure (Qa (x++y)):=by
 unfold QP;simp only[show¬((x.size+y.size:Nat):Int)>Qj.max by have:Qj.max=9223372036854775807:=(dd);omega,if_false]
theorem Fv(K:Nat->BitVec 64)(l:Qu):(aj K l).length=64:=pV _ _
theorem Zn(K:Nat->BitVec 64)(f i d:Qb)(w:Qm)(C:f.size<=1000000)(E:i.size<=1000000)(B:d.size<=1000000)(k:Tab K w):
  Rw 122 #[Qa f,Qa i,Qa d] w (Qd (Ws (ol (aj K) f.data.toList i.data.toList d.data.toList))):=by
 have y:=Ie f i oo;have s:(f++i).size=f.size+i.size:=QJ;have r:=Ie (f++i) d oo;have t:(f++i++d).size=f.size+i.size+d.size:=by rw[QJ,s]
 have b:Hid (ol (aj K) f.data.toList i.data.toList d.data.toList=iX (aj K (f++i++d).data.toList)):=by
  show _=_
  rw[m9,m9];rfl
 generalize f++i=u at y r s t b;generalize u++d=j at r t b;have e:=Qh λo h=>Hw K j o oo h
 have ld:=Fv K j.data.toList;generalize aj K j.data.toList=D at e b ld;have g:=Qr λo=>TZ ⟨D.toArray⟩ o (by show D.length<=_;omega)
 have n:=oN D;generalize iX D=R at g b n;generalize ol (aj K) f.data.toList i.data.toList d.data.toList=p at b|-;have x:=b.out;subst x;clear b;generalize (⟨D.toArray⟩:ByteArray)=A at e g;have c:=Blk.new w (Ws [0,0,0,0]) 71;have a:Below w.heap.size w (w.alloc (Qk (Ws [0,0,0,0]) 71)):=bR.alloc nR _;replace k:=Qh k;go_enter Tryz.func122,Tryz.ntmps122;go_wp2_with fail;rw[SZ4];generalize w.alloc (Qk (Ws [0,0,0,0]) 71)=G at c a|-;refine mo (e.out _ (k.out.below a)) λH m=>?_;replace c:=c.keep m;replace a:=a.trans (m.mono a.size);clear m;go_wp2_with fail;refine gv g λI q=>?_
 replace c:=c.keep q;replace a:=a.trans (q.mono a.size);have F:=de (l:=p) c (by rw[n];rfl);have z:=Wz n;go_wp2;refine Qp (v:=Qd (Ws p)) ?_ rfl ⟨rfl,below_setRow a oo _⟩;exact rr t71 rfl rfl (c.row _) z
def sgr(S:List (BitVec 64))(r i:ByteArray):Array Value:=#[Qc Qi (U (S.getD 0 0)),Qc Qi (U (S.getD 1 0)),Qc Qi (U (S.getD 2 0)),Qc Qi (U (S.getD 3 0)),Qa r,Qa i]
theorem Nl(S:Ql)(r i:Qb):(sgr S r i).size=6:=rfl
theorem Sr(S:Ql)(r i:Qb):(sgr S r i).all (·.oneCell')=true:=kr
theorem Vc{w:Qm}{b t:Nat}{S:Ql}{r i:Qb}(h:Blk w b (sgr S r i) t)(c:S.length=4):w.rangeAt b 0 (Ws S).toList:=by
 obtain⟨e,f,g,k,rfl⟩:=pd S c;intro j v a;rw[h.cell];have d:j<4:=by have:=(List.getElem?_eq_some_iff.1 a).1;simpa [Ws]using this
 match j,d with
 |0,_=>exact a
 |1,_=>exact a
 |2,_=>exact a
 |3,_=>exact a
theorem Tryz.infoG6:(Qq.info? 73).map (·.size)=some 6:=kr
theorem abK(S:Ql)(r i:Qb)(a:S.length=4)(w:Qm):(Instr.build 73 #[(0,Qd (Ws S)),(1,Qa r),(2,Qa i)]).run Qq w=.ok (Qd (sgr S r i)) w:=by
 obtain⟨b,c,d,e,rfl⟩:=pd S a;exact run_build w _ _ _ kr
theorem Vd(S:Ql)(r i:Qb)(w:Qm):(Instr.field 73 (Qd (sgr S r i)) 2).run Qq w=.ok (Qa i) w:=kr
theorem U9{w:Qm}{g t:Nat}{a cs':Array Value}(c:Blk w g a t)(d:a.size=cs'.size)(b:cs'.all (·.oneCell')=true):
  (storeCells ⟨g,0,none⟩ cs'.toList).run Qq w=.ok () (w.setRow g cs'):=by
 have:=run_storeCells_from (P:=Qq) g t cs'.toList 0 a w c (by simp[d]) (λv e=>(Array.all_eq_true_iff_forall_mem.1 b) v (by simpa using e));rw[this];simp
theorem NI(s:Qb)(n:Nat):(s.extract 0 n).data.toList=s.data.toList.take n:=by
 rw[QL,Array.toList_extract];simp
theorem NJ(s:Qb)(n:Nat):(s.extract n s.size).data.toList=s.data.toList.drop n:=by
 rw[QL,Array.toList_extract];rw[List.extract_eq_take_drop,List.take_of_length_le];rw[QC];simp
theorem OU(K:Nat->BitVec 64)(a:Qb)(w:Qm)(hs:a.size=32)(b:Tab K w):
  Rw 51 #[Qa a] w (Qd (sgr (iM (aj K) a.data.toList) ⟨(oJ (aj K) a.data.toList).toArray⟩ ⟨(dq (aj K) a.data.toList).toArray⟩)):=by
 have u:=Qh λd h=>Hw K a d oo h
 have ld:=Fv K a.data.toList;have e:Hid (iM (aj K) a.data.toList=iX (eV ((aj K a.data.toList).take 32))/\oJ (aj K) a.data.toList=(aj K a.data.toList).drop 32/\dq (aj K) a.data.toList=bJ (fB Qy (iX (eV ((aj K a.data.toList).take 32))))):=by
  refine⟨?_,?_,?_⟩
  .unfold iM;with_reducible rfl
  .unfold oJ;with_reducible rfl
  .unfold dq iM;with_reducible rfl
 generalize iM (aj K) a.data.toList=f at e|-;generalize oJ (aj K) a.data.toList=RR at e|-;generalize dq (aj K) a.data.toList=RI at e|-;generalize aj K a.data.toList=D at u e ld;have Q:(⟨D.toArray⟩:ByteArray).size=64:=ld;have s:(⟨D.toArray⟩:ByteArray).data.toList=D:=rfl;generalize (⟨D.toArray⟩:ByteArray)=m at u Q s;have L:(m.extract 0 32).data.toList=D.take 32:=by rw[NI,s]
 have z1:(m.extract 0 32).size=32:=by simp;omega
 have M:(m.extract 32 64).data.toList=D.drop 32:=by rw[<-Q,NJ,s]
 have J:=e.out.2.1;obtain⟨g,hx⟩:∃g,m.extract 32 64=g:=⟨_,rfl⟩
 have P:(⟨RR.toArray⟩:ByteArray)=g:=by rw[J,<-M,<-hx]
 have x:=Qr λd=>by
  have:=GK (m.extract 0 32) d z1;rw[L]at this;exact this
 have lc:(eV (D.take 32)).length=32:=by rw[wH,List.length_take,ld];rfl
 generalize eV (D.take 32)=C at x e lc;have y:Hid (Rv 114 #[Qa ⟨C.toArray⟩] (Qd (Ws (iX C)))):=λd=>TZ ⟨C.toArray⟩ d (by show C.length<=_;omega)
 generalize (⟨C.toArray⟩:ByteArray)=cs at x y;have t:=oN C;generalize iX C=S at y e t;have H:=Qr Pv;have z:=Qr λd=>FH Qy S d ⟨rfl,rfl,rfl⟩ t
 have o:Hid (Rv 117 #[Qd (Ws (bM (fB Qy S)))] (Qa ⟨(bJ (fB Qy S)).toArray⟩)):=λd=>FJ _ d (wu _ _)
 have hS:=e.out.1;have O:=e.out.2.2;rw[<-O]at o;subst hS;clear e O J;generalize bM (fB Qy f)=rT at z o;generalize bM Qy=rB at H z;rw[P];generalize (⟨RI.toArray⟩:ByteArray)=n at o|-;have I:=Qh (abK f g n t);have G:=Wz t;have F:=Nl f g n;have Z:=Sr f g n;generalize sgr f g n=p at I F Z|-;have c:WD w w.heap.size [(w.heap.size,#[Qc Qi 0,Qc Qi 0,Qc Qi 0,Qc Qi 0,Qa ⟨#[]⟩,Qa ⟨#[]⟩],73)] (w.alloc (Qk #[Qc Qi 0,Qc Qi 0,Qc Qi 0,Qc Qi 0,Qa ⟨#[]⟩,Qa ⟨#[]⟩] 73)):=(WD.start (w:=w)).new #[Qc Qi 0,Qc Qi 0,Qc Qi 0,Qc Qi 0,Qa ⟨#[]⟩,Qa ⟨#[]⟩] 73;replace b:=Qh b;have ah:=b;clear L M P s;go_enter Tryz.func51,Tryz.ntmps51;go_wp2_with fail;generalize w.alloc (Qk #[Qc Qi 0,Qc Qi 0,Qc Qi 0,Qc Qi 0,Qa ⟨#[]⟩,Qa ⟨#[]⟩] 73)=w1 at c|-;refine mo (u.out _ (b.out.below c.below)) λw2 T=>?_;replace c:=c.keep T;clear T;go_wp2_with fail;refine gv x λw3 W=>?_
 replace c:=c.keep W;clear W;go_wp2_with fail;refine gv y λk X=>?_
 replace c:=c.keep X;clear X;have A:=c.new #[Qc Qi 0,Qc Qi 0,Qc Qi 0,Qc Qi 0] 71;have q:=A.get 0 rfl;dsimp only at q;unfold Blk at q;go_wp2_with (first
  |(refine st t71 rfl rfl k.heap.size rfl rfl q G rfl (aZ _) ?_))
 replace c:WD w w.heap.size [(k.heap.size,Ws f,71),(w.heap.size,#[Qc Qi 0,Qc Qi 0,Qc Qi 0,Qc Qi 0,Qa ⟨#[]⟩,Qa ⟨#[]⟩],73)] ((k.alloc (Qk #[Qc Qi 0,Qc Qi 0,Qc Qi 0,Qc Qi 0] 71)).setRow k.heap.size (Ws f)):=A.over 0 rfl (Ws f);clear A q;generalize (k.alloc (Qk #[Qc Qi 0,Qc Qi 0,Qc Qi 0,Qc Qi 0] 71)).setRow k.heap.size (Ws f)=w5 at c|-;generalize k.heap.size=q4 at c|-;refine rgS [8] c.drew (λgd l=>?_);clear c;refine ar 0 11 t71 (λ_ h=>h.get 0 rfl) G l ?_;refine ae 1 12 l ?_;refine ac 2 13 (v:=Qa g) l ?_ ?_
 .exact λd _=>by go_simp;try (with_reducible rfl)
 simp only[qQ];refine ar 4 15 t71 (λ_ h=>h.get 0 rfl) G l ?_;try simp only[qQ]
 refine aF 3 λK b=>?_
 go_simp;go_wp2_with (go_at_call 115;refine gv H λab j=>?_);have B:=l.keep j;refine b.out _ _ B ?_;try simp only[qQ]
 clear b K j l;refine aF 5 λK b=>?_
 go_simp;go_wp2_with (go_at_call 116;refine gv z λad j=>?_);have E:=B.keep j;refine b.out _ _ E ?_;try simp only[qQ]
 clear b K j B;refine aF 6 λK b=>?_
 go_simp;go_wp2_with (go_at_call 117;refine gv o λag j=>?_);have r:=E.keep j;refine b.out _ _ r ?_;try simp only[qQ]
 clear b K j E;refine ac 7 18 (v:=Qd p) r ?_ ?_
 .exact λd _=>uO 73 _ rfl [(0,Qd (Ws f)),(1,Qa g),(2,Qa n)] rfl _ (I.out d)
 simp only[qQ];refine AJ (i:=8) kr rfl rfl (λK9 b=>?_);have R:=U9 (r.get 1 rfl) (cs':=p) (by rw[F];rfl) Z;dsimp only at R;go_simp;refine b.out _ _ ?_;clear b K9 R;have N:=r.over 1 rfl p;refine aC ?_;go_wp2;refine Qp (v:=Qd p) ?_ rfl ⟨rfl,N.below⟩;exact results_cell_row rfl _ _ w.heap.size 73 _ (0,0) _ rfl (N.get 1 rfl) Tryz.underlying73 rfl (by rw[F];exact Tryz.infoG6)
theorem Kb(K:Nat->BitVec 64)(a:Qb)(w:Qm)(f:a.size=32)(c:Tab K w):
  Rw 26 #[Qa a] w (Qa ⟨(dq (aj K) a.data.toList).toArray⟩):=by
 have b:=Qh λi h=>OU K a i f h
 replace c:=Qh c;generalize (⟨(dq (aj K) a.data.toList).toArray⟩:ByteArray)=d at b|-;generalize (⟨(oJ (aj K) a.data.toList).toArray⟩:ByteArray)=rr at b;generalize iM (aj K) a.data.toList=S at b;have e:=Vd S rr d;generalize sgr S rr d=j at b e;go_enter Tryz.func26,Tryz.ntmps26;go_wp2_with fail;refine mo (b.out _ c.out) λk g=>?_;go_wp2;go_ret;exact⟨rfl,g⟩
theorem aaC(K:Nat->BitVec 64)(G data rr d rd I k q:Qb)(S i X Z x y r:Ql)(w:Qm)(c:Hid (Tab K w))
  (F:Hid (∀e:Qm,Tab K e->Rw 51 #[Qa G] e (Qd (sgr S rr d))))
  (H2:Hid (∀e:Qm,Tab K e->Rw 113 #[Qa rd] e (Qa I)))
  (H3:Hid (Rv 114 #[Qa I] (Qd (Ws i))))
  (H4:Hid (Rv 115 #[] (Qd (Ws X))))
  (H5:Hid (Rv 116 #[Qd (Ws X),Qd (Ws i)] (Qd (Ws Z))))
  (H6:Hid (Rv 117 #[Qd (Ws Z)] (Qa k)))
  (H7:Hid (∀e:Qm,Tab K e->Rw 122 #[Qa k,Qa d,Qa data] e (Qd (Ws x))))
  (H8:Hid (Rv 123 #[Qd (Ws x),Qd (Ws S)] (Qd (Ws y))))
  (H9:Hid (Rv 121 #[Qd (Ws i),Qd (Ws y)] (Qd (Ws r))))
  (J1:Hid (Rv 124 #[Qd (Ws r)] (Qa q)))
  (N:S.length=4) (an:i.length=4) (ah:r.length=4) (o1:QP .add rr data=pure (Qa rd)) (o2:QP .add k q=pure (Qa (k++q))):
  Rw 56 #[Qa G,Qa data] w (Qa (k++q)):=by
 have ag:=c;have E:=Wz an;have ab:=Wz ah;have sS:=Wz N;have D:=Nl S rr d;have T:=Sr S rr d;have L:(sgr S rr d)[4]? =some (Qa rr):=rfl;have M:(sgr S rr d)[5]? =some (Qa d):=rfl;have O:Hid (∀(w:Qm) (b t:Nat),Blk w b (sgr S rr d) t->w.rangeAt b 0 (Ws S).toList):=λw b t h=>Vc h N
 generalize sgr S rr d=o at F D T L M O;generalize k++q=az at o2|-;go_enter Tryz.func56,Tryz.ntmps56;go_wp2_with fail;refine mo (F.out _ c.out) λm P=>?_;have a:=(WD.start (w:=w)).keep P;clear P;have l:=a.new #[Qc Qi 0,Qc Qi 0,Qc Qi 0,Qc Qi 0,Qa ⟨#[]⟩,Qa ⟨#[]⟩] 73;have f:=l.get 0 rfl;dsimp only at f;unfold Blk at f;replace a:WD w w.heap.size [(m.heap.size,o,73)] ((m.alloc (Qk #[Qc Qi 0,Qc Qi 0,Qc Qi 0,Qc Qi 0,Qa ⟨#[]⟩,Qa ⟨#[]⟩] 73)).setRow m.heap.size o):=l.over 0 rfl o;have z:=(a.get 0 rfl).cell 4;dsimp only at z;rw[L]at z;go_wp2_with (first
  |(refine Qn rfl 73 _ _ rfl m.heap.size o rfl rfl 73 _ f (by rw[D];exact Tryz.infoG6) (by rw[D];rfl) T ?_))
 clear l f z;generalize (m.alloc (Qk #[Qc Qi 0,Qc Qi 0,Qc Qi 0,Qc Qi 0,Qa ⟨#[]⟩,Qa ⟨#[]⟩] 73)).setRow m.heap.size o=w3 at a|-;generalize m.heap.size=W at a|-;refine mo (H2.out _ (c.out.below a.below)) λw4 Q=>?_;replace a:=a.keep Q;clear Q;go_wp2_with fail;refine gv H3 λn R=>?_
 replace a:=a.keep R;clear R;have l:=a.new #[Qc Qi 0,Qc Qi 0,Qc Qi 0,Qc Qi 0] 71;have f:=l.get 0 rfl;dsimp only at f;unfold Blk at f;go_wp2_with (first
  |(refine st t71 rfl rfl n.heap.size rfl rfl f E rfl (aZ _) ?_))
 replace a:WD w w.heap.size [(n.heap.size,Ws i,71),(W,o,73)] ((n.alloc (Qk #[Qc Qi 0,Qc Qi 0,Qc Qi 0,Qc Qi 0] 71)).setRow n.heap.size (Ws i)):=l.over 0 rfl (Ws i);clear l f;generalize (n.alloc (Qk #[Qc Qi 0,Qc Qi 0,Qc Qi 0,Qc Qi 0] 71)).setRow n.heap.size (Ws i)=w6 at a|-;generalize n.heap.size=q6 at a|-;refine rgS [] a.drew (λad A=>?_);clear a;refine ar 1 18 t71 (λ_ h=>h.get 0 rfl) E A ?_;try simp only[qQ]
 refine aF 0 λK c=>?_
 go_simp;go_wp2_with (go_at_call 115;refine gv H4 λao j=>?_);have B:=A.keep j;refine c.out _ _ B ?_;try simp only[qQ]
 clear c K j A;refine aF 2 λK c=>?_
 go_simp;go_wp2_with (go_at_call 116;refine gv H5 λap j=>?_);have C:=B.keep j;refine c.out _ _ C ?_;try simp only[qQ]
 clear c K j B;refine aF 3 λK c=>?_
 go_simp;go_wp2_with (go_at_call 117;refine gv H6 λax j=>?_);have u:=C.keep j;refine c.out _ _ u ?_;try simp only[qQ]
 clear c K j C;refine ae 4 7 (v:=Qa k) u ?_;try simp only[qQ]
 refine aC ?_;go_wp2_with fail;refine rgS [11] u.drew (λbd g=>?_);clear u;refine ar 0 21 t71 (λ_ h=>h.get 0 rfl) E g ?_;refine ae 1 22 g ?_;refine ae 2 23 g ?_;simp only[qQ];refine ac 3 24 (v:=Qa d) g ?_ ?_
 .exact λe s=>(by have H:=(s.get 1 rfl).cell 5;dsimp only at H;rw[M]at H;clear s;go_simp;try (with_reducible rfl))
 refine ae 4 25 g ?_;refine ae 6 27 g ?_;simp only[qQ];refine ac 7 28 (v:=Qd (Ws S)) g ?_ ?_
 .exact λe s=>m8 71 _ rfl W 0 rfl (Ws S) _ (O.out _ _ _ (s.get 1 rfl)) Tryz.underlying71 rfl (by rw[sS];exact Tryz.infoS4)
 try simp only[qQ]
 refine yh 1 [(5,26,Qd (Ws x)),(8,29,Qd (Ws y)),(9,30,Qd (Ws r))] 10 8 #[Qc Qi 0,Qc Qi 0,Qc Qi 0,Qc Qi 0] 71 g ⟨vcX (λ_ h=>H7.out _ (ag.out.below h.below)),vc H8,vc H9⟩ (λn' q8 bx p=>?_);clear g;simp only[kf,QH,QI,QD,QE,QF,QG,qQ];refine ltW 11 0 p Tryz.infoS4 ab rfl (aZ _) (λay p=>?_);refine aC ?_;have J:=p.gt 0 rfl;go_wp2_with (first
  |(refine ld t71 rfl rfl q8 rfl J ab ?_))
 clear J;refine gv J1 λw9 k9=>?_
 replace p:=p.keep k9;go_wp2;go_ret;exact⟨rfl,p.below⟩
theorem Wo(K:Nat->BitVec 64)(a data:Qb)(w:Qm)(W:a.size=32)(hd:data.size<=100000)(T:Tab K w):
  Rw 56 #[Qa a,Qa data] w (Qa ⟨(nc (aj K) a.data.toList data.data.toList).toArray⟩):=by
 have l:=λb h=>OU K a b W h
 have t:(iM (aj K) a.data.toList).length=4:=oN _;have I:(oJ (aj K) a.data.toList).length=32:=by unfold oJ;rw[QC,Fv]
 have H:=xV (aj K) a.data.toList;have n:nc (aj K) a.data.toList data.data.toList=Qz (aj K) a.data.toList data.data.toList++br (rQ (aj K) a.data.toList data.data.toList) 32:=by unfold nc mm;with_reducible rfl
 have e:rQ (aj K) a.data.toList data.data.toList=dI (pc (aj K) a.data.toList data.data.toList) (pP (ol (aj K) (Qz (aj K) a.data.toList data.data.toList) (dq (aj K) a.data.toList) data.data.toList) (iM (aj K) a.data.toList)):=by unfold rQ;with_reducible rfl
 have s:Qz (aj K) a.data.toList data.data.toList=bJ (fB Qy (pc (aj K) a.data.toList data.data.toList)):=by unfold Qz;with_reducible rfl
 have j:pc (aj K) a.data.toList data.data.toList=iX (aj K (oJ (aj K) a.data.toList++data.data.toList)):=by unfold pc;with_reducible rfl
 have G:=Ai (aj K) a.data.toList data.data.toList;generalize nc (aj K) a.data.toList data.data.toList=P at n|-;generalize rQ (aj K) a.data.toList data.data.toList=g at n e;generalize Qz (aj K) a.data.toList data.data.toList=d at n e s G;generalize pc (aj K) a.data.toList data.data.toList=i at e s j;generalize iM (aj K) a.data.toList=S at l e t;generalize dq (aj K) a.data.toList=f at l e H;generalize oJ (aj K) a.data.toList=c at l j I;have zr:(⟨c.toArray⟩:ByteArray).size=32:=I;have dr:(⟨c.toArray⟩:ByteArray).data.toList=c:=rfl;have zi:(⟨f.toArray⟩:ByteArray).size=32:=H;have R:(⟨f.toArray⟩:ByteArray).data.toList=f:=rfl;have zf:(⟨d.toArray⟩:ByteArray).size=32:=G;have Q:(⟨d.toArray⟩:ByteArray).data.toList=d:=rfl;have B:((⟨c.toArray⟩:ByteArray)++data).data.toList=c++data.data.toList:=by rw[m9]
 have J:=Ie ⟨c.toArray⟩ data oo;have Z:((⟨c.toArray⟩:ByteArray)++data).size=32+data.size:=by rw[QJ,zr]
 generalize (⟨c.toArray⟩:ByteArray)++data=L at B J Z;have q:=λb h=>Hw K L b oo h
 rw[B]at q;have ld:=Fv K (c++data.data.toList);generalize aj K (c++data.data.toList)=k at q j ld;have M:=λb=>TZ ⟨k.toArray⟩ b (by show k.length<=_;omega)
 have N:Rv 114 #[Qa ⟨k.toArray⟩] (Qd (Ws i)):=by rw[j];exact M
 have o:i.length=4:=by rw[j];exact oN _
 have O:=λb=>FH Qy i b (MY rfl rfl rfl) o
 have u:=λb=>FJ (fB Qy i) b (wu _ _)
 rw[<-s]at u;have r:=λb h=>Zn K ⟨d.toArray⟩ ⟨f.toArray⟩ data b oo oo oo h
 rw[Q,R]at r;have E:(ol (aj K) d f data.data.toList).length=4:=oN _;generalize ol (aj K) d f data.data.toList=m at r e E;have v:=λb=>aar m S b E t
 have F:=Ix m S;generalize pP m S=z at v e F;have x:=λb=>En i z b o F
 rw[<-e]at x;have D:g.length=4:=by rw[e,kj,o]
 have y:=λb=>SO g b D
 have C:=mJ g 32;have A:(⟨P.toArray⟩:ByteArray)=⟨d.toArray⟩++⟨(br g 32).toArray⟩:=by
  apply QM
  apply Array.toList_inj.1
  rw[m9,n]
 generalize br g 32=p at y C A;have X:=Ie ⟨d.toArray⟩ ⟨p.toArray⟩ (by have:(⟨p.toArray⟩:ByteArray).size=32:=C;omega);rw[A];exact aaC K a data ⟨c.toArray⟩ ⟨f.toArray⟩ L ⟨k.toArray⟩ ⟨d.toArray⟩ ⟨p.toArray⟩ S i _ _ m z g w T l q N Pv O u r v x y t o D J X
theorem YD(K:Nat->BitVec 64)(id data E e n C o:Qb)(i g S F J D T W:Ql)(y:Bool)(w:Qm)(a:Hid (Tab K w))(a1:E.size=64)(x1:E.extract 0 32=e)(x2:E.extract 32 64=n)
  (H1:Hid (Rv 188 #[Qa id] (Qg #[Qd (Ws i),Qe y])))
  (H2:Hid (Rv 114 #[Qa n] (Qd (Ws g))))
  (H3:Hid (Rv 124 #[Qd (Ws g)] (Qa C)))
  (H4:Hid (∀q:Qm,Tab K q->Rw 122 #[Qa e,Qa id,Qa data] q (Qd (Ws F))))
  (H5:Hid (Rv 116 #[Qd (Ws i),Qd (Ws F)] (Qd (Ws J))))
  (H6:Hid (Rv 189 #[Qd (Ws J)] (Qd (Ws D))))
  (H7:Hid (Rv 115 #[] (Qd (Ws S))))
  (H8:Hid (Rv 116 #[Qd (Ws S),Qd (Ws g)] (Qd (Ws T))))
  (H9:Hid (Rv 174 #[Qd (Ws T),Qd (Ws D)] (Qd (Ws W))))
  (J1:Hid (Rv 117 #[Qd (Ws W)] (Qa o)))
  (ah:i.length=15) (ag:g.length=4) (an:D.length=15):
  Rw 133 #[Qa id,Qa data,Qa E] w (Qe (if y=true then(if C=n then(o.toList==e.toList)else false)else false)):=by
 have ab:=a;have hz:=yZ;have X:=wJ;generalize Z15=x at hz X;have M:=Wz X;have u:=Wz ah;have L:=Wz ag;have Z:=Wz an;generalize r:(if y=true then(if C=n then(o.toList==e.toList)else false)else false)=V;replace r:=Qh r;go_enter Tryz.func133,Tryz.ntmps133;go_wp2_with fail;refine gv H1 λj P=>?_
 have m:=(WD.start (w:=w)).keep P;clear P;have l:=m.new (Ws x) 122;have c:=l.get 0 rfl;dsimp only at c;unfold Blk at c;replace m:WD w w.heap.size [(j.heap.size,Ws i,122)] ((j.alloc (Qk (Ws x) 122)).setRow j.heap.size (Ws i)):=l.over 0 rfl (Ws i);cases y with
 |false=>
  go_wp2_with (first
   |(refine Qn rfl 122 _ _ rfl j.heap.size _ rfl rfl 122 _ c (by rw[u];exact Tryz.infoP15) (by rw[u,M]) (aZ _) ?_))
  have s:V=false:=by rw[<-show _=V from r.out];first|rfl|simp
  go_ret;exact⟨by rw[s];rfl,m.below⟩
 |true=>
  go_wp2_with (first
   |(refine Qn rfl 122 _ _ rfl j.heap.size _ rfl rfl 122 _ c (by rw[u];exact Tryz.infoP15) (by rw[u,M]) (aZ _) ?_))
  clear l c;generalize (j.alloc (Qk (Ws x) 122)).setRow j.heap.size (Ws i)=w3 at m|-;generalize j.heap.size=q7 at m|-;refine rgS [] m.drew (λad f=>?_);clear m;refine ae 0 20 f ?_;refine ac 1 21 (v:=Qa e) f ?_ ?_
  .exact λq _=>by go_simp;try (with_reducible rfl)
  refine ae 2 22 f ?_;simp only[qQ];refine ac 3 23 (v:=Qa n) f ?_ ?_
  .exact λq _=>by go_simp;try (with_reducible rfl)
  refine ac 4 9 (v:=Qa e) f ?_ ?_
  .exact λq _=>by go_simp;try (with_reducible rfl)
  refine ac 5 10 (v:=Qa n) f ?_ ?_
  .exact λq _=>by go_simp;try (with_reducible rfl)
  try simp only[qQ]
  refine aC ?_;generalize ad=w4 at f|-;go_wp2_with fail;refine gv H2 λk Q=>?_
  have d:=f.keep Q;clear Q f;have l:=d.new #[Qc Qi 0,Qc Qi 0,Qc Qi 0,Qc Qi 0] 71;have c:=l.get 0 rfl;dsimp only at c;unfold Blk at c;replace d:WD w w.heap.size [(k.heap.size,Ws g,71),(q7,Ws i,122)] ((k.alloc (Qk #[Qc Qi 0,Qc Qi 0,Qc Qi 0,Qc Qi 0] 71)).setRow k.heap.size (Ws g)):=l.over 0 rfl (Ws g);have N:=d.gt 0 rfl;go_wp2_with (first
   |(refine st t71 rfl rfl k.heap.size rfl rfl c L rfl (aZ _) ?_)
   |(refine ld t71 rfl rfl k.heap.size rfl N L ?_))
  clear l c N;generalize (k.alloc (Qk #[Qc Qi 0,Qc Qi 0,Qc Qi 0,Qc Qi 0] 71)).setRow k.heap.size (Ws g)=w6 at d|-;generalize k.heap.size=a2 at d|-;refine gv H3 λw7 R=>?_
  replace d:=d.keep R;clear R;by_cases z:C=n
  .have O:=Qh z;clear z;rw[O.out];go_wp2_with fail;refine rgS [8] d.drew (λbd p=>?_);clear d;refine ar 0 30 r6 (λ_ h=>h.get 1 rfl) u p ?_;refine ae 1 31 p ?_;refine ae 2 32 p ?_;simp only[qQ];refine ae 3 33 p ?_;try simp only[qQ]
   refine yh 1 [(4,34,Qd (Ws F)),(5,35,Qd (Ws J)),(6,36,Qd (Ws D))] 7 12 (Ws x) 122 p ⟨vcX (λ_ h=>H4.out _ (ab.out.below h.below)),vc H5,vc H6⟩ (λn' a3 bx A=>?_);clear p;simp only[kf,QH,QI,QD,QE,QF,QG,qQ];refine ltW 8 0 A Tryz.infoP15 Z M (aZ _) (λao A=>?_);refine aC ?_;go_wp2_with fail;refine rgS [] A.drew (λcd t=>?_);clear A;refine ar 1 38 t71 (λ_ h=>h.get 1 rfl) L t ?_;refine ar 3 40 r6 (λ_ h=>h.get 0 rfl) Z t ?_;refine ae 6 43 t ?_;try simp only[qQ]
   refine aF 0 λK a=>?_
   go_simp;go_wp2_with (go_at_call 115;refine gv H7 λap b=>?_);have G:=t.keep b;refine a.out _ _ G ?_;try simp only[qQ]
   clear a K b t;refine aF 2 λK a=>?_
   go_simp;go_wp2_with (go_at_call 116;refine gv H8 λax b=>?_);have H:=G.keep b;refine a.out _ _ H ?_;try simp only[qQ]
   clear a K b G;refine aF 4 λK a=>?_
   go_simp;go_wp2_with (go_at_call 174;refine gv H9 λay b=>?_);have I:=H.keep b;refine a.out _ _ I ?_;try simp only[qQ]
   clear a K b H;refine aF 5 λK a=>?_
   go_simp;go_wp2_with (go_at_call 117;refine gv J1 λaz b=>?_);have B:=I.keep b;refine a.out _ _ B ?_;try simp only[qQ]
   clear a K b I;refine ae 7 44 (v:=Qe (o.toList==e.toList)) B ?_;try simp only[qQ]
   refine ae 8 6 (v:=Qe (o.toList==e.toList)) B ?_;try simp only[qQ]
   refine aC ?_;have s:V=(o.toList==e.toList):=by rw[<-show _=V from r.out,if_pos trivial,if_pos O.out]
   go_wp2;go_ret;exact⟨by rw[s];rfl,B.below⟩
  .have a0:=G6 z;go_wp2;have s:V=false:=by rw[<-show _=V from r.out,if_pos trivial,if_neg z]
   go_ret;exact⟨by rw[s];rfl,d.below⟩
theorem FR(s:Qb):s.toList=s.data.toList:=ByteArray.toList_eq s
theorem La(K:Nat->BitVec 64)(id data a:Qb)(w:Qm)(W:id.size=32)(hd:data.size<=100000)(G:a.size=64)(S:Tab K w):
  Rw 133 #[Qa id,Qa data,Qa a] w (Qe (jM (aj K) id.data.toList data.data.toList a.data.toList)):=by
 have p:=λc=>ads id c W
 have Q:(a.extract 0 32).data.toList=a.data.toList.take 32:=NI _ _;have R:(a.extract 32 64).data.toList=a.data.toList.drop 32:=by rw[<-G,NJ]
 have z1:(a.extract 0 32).size=32:=by simp;omega
 have z2:(a.extract 32 64).size=32:=by simp;omega
 have b:jM (aj K) id.data.toList data.data.toList a.data.toList=if (jF id.data.toList).2=true then(if mm (iX (a.data.toList.drop 32))=a.data.toList.drop 32 then decide (yY (aj K) (jF id.data.toList).1 id.data.toList data.data.toList (a.data.toList.take 32) (iX (a.data.toList.drop 32))=a.data.toList.take 32)else false)else false:=by unfold jM;with_reducible rfl
 have I:yY (aj K) (jF id.data.toList).1 id.data.toList data.data.toList (a.data.toList.take 32) (iX (a.data.toList.drop 32))=bJ (dK (fB Qy (iX (a.data.toList.drop 32))) (jG (fB (jF id.data.toList).1 (ol (aj K) (a.data.toList.take 32) id.data.toList data.data.toList)))):=by unfold yY;with_reducible rfl
 have v:Cv_Ok (jF id.data.toList).1:=YZ _;rw[I]at b;clear I;rw[<-Q,<-R]at b;generalize jM (aj K) id.data.toList data.data.toList a.data.toList=P at b|-;generalize (jF id.data.toList).1=j at p b v;generalize (jF id.data.toList).2=t at p b;obtain⟨g,N⟩:∃f,a.extract 0 32=f:=⟨_,rfl⟩
 obtain⟨i,O⟩:∃f,a.extract 32 64=f:=⟨_,rfl⟩
 rw[N]at b z1;rw[O]at b z2;have x:=λc=>TZ i c oo
 have m:=oN i.data.toList;generalize iX i.data.toList=d at x b m;have y:=λc=>SO d c m
 have T:mm d=br d 32:=by unfold mm;with_reducible rfl
 rw[T]at b;generalize br d 32=q at y b;have z:=λc h=>Zn K g id data c oo oo oo h
 have J:(ol (aj K) g.data.toList id.data.toList data.data.toList).length=4:=oN _;generalize ol (aj K) g.data.toList id.data.toList data.data.toList=k at z b J;have A:=λc=>FH j k c v J
 have n:=wu j k;generalize fB j k=X at A b n;have B:=λc=>WY X c n
 have u:Cv_Ok (jG X):=MY (oz _) n.2.1 n.2.2;generalize jG X=r at B b u;have C:=λc=>FH Qy d c (MY rfl rfl rfl) m
 have L:=wu Qy d;generalize fB Qy d=s at C b L;have D:=λc=>Pt s r c L u
 have M:=yV s r;generalize dK s r=F at D b M;have E:=λc=>FJ F c M
 generalize bJ F=o at E b;have H:=YD K id data a g i ⟨q.toArray⟩ ⟨o.toArray⟩ (bM j) d _ k _ _ _ _ t w S G N O p x y z A B Pv C D E v.row m u.row;have Z:(if t=true then(if(⟨q.toArray⟩:ByteArray)=i then((⟨o.toArray⟩:ByteArray).toList==g.toList)else false)else false)=P:=by
  rw[b];by_cases l:t=true
  .rw[if_pos l,if_pos l];by_cases h2:q=i.data.toList
   .rw[if_pos (Fs.2 h2),if_pos h2,FR,FR];show(o==g.data.toList)=_
    rw[Bool.eq_iff_iff];simp
   .rw[if_neg (λe=>h2 (Fs.1 e)),if_neg h2]
  .rw[if_neg l,if_neg l]
 rw[Z]at H;exact H
theorem AK(s:Qb)(a:Nat)(w:Qm)(c:a<=1000000)(d:s.size<=140737488351232):
  Qo Qq 27 #[Qc Qj a,Qf (some ⟨w.heap.size,0,none⟩) 1 1] (w.alloc (Qk (Ss [s]) 9)) λe w'=>e=QO (Qe (decide (a<s.size)))/\w'=w.alloc (Qk (Ss [s]) 9):=by
 have:=lV w.heap.size 1 a [s] 9 _ c rfl oo (Blk.new w _ _) (by intro j b;match j,b with|0,_=>show s.size<=_;omega);rw[qo]at this;exact this
theorem OX(K:Nat->BitVec 64)(s:Qb)(w:Qm)(d:s.size=32)(c:Tab K w):
  Rw 13 #[Qa s] w (Qg #[Qa ⟨(dq (aj K) s.data.toList).toArray⟩,Qc Qj 0]):=by
 have b:Below w.heap.size w (w.alloc (Qk (Ss [s]) 9)):=bR.alloc nR _;have a:=nI s w oo;have g:decide (¬(s.size=32))=false:=by simp[d]
 rw[g]at a;replace a:=Qh a;have f:=Qh λj h=>Kb K s j d h
 generalize dq (aj K) s.data.toList=R at f|-;replace c:=Qh c;clear g d;go_enter Tryz.func13,Tryz.ntmps13;go_wp2_with fail;refine a.out.mono ?_;rintro e w' ⟨rfl,rfl⟩;go_wp2_with fail;refine mo (f.out _ (c.out.below b)) λk i=>?_;go_wp2;go_ret2;exact⟨rfl,b.trans (i.mono b.size)⟩
theorem Yh(K:Nat->BitVec 64)(s d:Qb)(w:Qm)(g:s.size=32)(o:d.size<=12000)(f:Tab K w):
  Rw 99 #[Qa s,Qa d] w (Qg #[Qa ⟨(nc (aj K) s.data.toList d.data.toList).toArray⟩,Qc Qj 0]):=by
 have j:Below w.heap.size w (w.alloc (Qk (Ss [s]) 9)):=bR.alloc nR _;have c:Below w.heap.size w ((w.alloc (Qk (Ss [s]) 9)).alloc (Qk (Ss [d]) 9)):=j.alloc ss _;have b:=nI s w oo;have k:decide (¬(s.size=32))=false:=by simp[g]
 rw[k]at b;replace b:=Qh b;have a:=AK d 12000 (w.alloc (Qk (Ss [s]) 9)) oo oo;have l:decide (12000<d.size)=false:=by simp;omega
 rw[l,show (w.alloc (Qk (Ss [s]) 9)).heap.size=w.heap.size+1 by simp]at a;replace a:Hid (Qo Qq 27 #[Qc Qj 12000,Qf (some ⟨w.heap.size+1,0,none⟩) 1 1] ((w.alloc (Qk (Ss [s]) 9)).alloc (Qk (Ss [d]) 9)) λe w'=>e=QO (Qe false)/\w'=(w.alloc (Qk (Ss [s]) 9)).alloc (Qk (Ss [d]) 9)):=a;have i:=Qh λn h=>Wo K s d n g oo h
 generalize nc (aj K) s.data.toList d.data.toList=R at i|-;replace f:=Qh f;clear k l g j;go_enter Tryz.func99,Tryz.ntmps99;go_wp2_with fail;refine b.out.mono ?_;rintro e w' ⟨rfl,rfl⟩;go_wp2_with fail;refine a.out.mono ?_;rintro e w' ⟨rfl,rfl⟩;go_wp2_with fail;refine mo (i.out _ (f.out.below c)) λp m=>?_;go_wp2;go_ret2;exact⟨rfl,c.trans (m.mono c.size)⟩
theorem TG(K:Nat->BitVec 64)(i d g:Qb)(w:Qm)(j:i.size=32)(s:d.size<=12000)(f:Tab K w):
  Rw 101 #[Qa i,Qa d,Qa g] w (Qe (if g.size=64 then jM (aj K) i.data.toList d.data.toList g.data.toList else false)):=by
 have k:Below w.heap.size w (w.alloc (Qk (Ss [i]) 9)):=bR.alloc nR _;have c:Below w.heap.size w ((w.alloc (Qk (Ss [i]) 9)).alloc (Qk (Ss [d]) 9)):=k.alloc ss _;have b:=nI i w oo;have l:decide (¬(i.size=32))=false:=by simp[j]
 rw[l]at b;replace b:=Qh b;have a:=AK d 12000 (w.alloc (Qk (Ss [i]) 9)) oo oo;have m:decide (12000<d.size)=false:=by simp;omega
 rw[m,show (w.alloc (Qk (Ss [i]) 9)).heap.size=w.heap.size+1 by simp]at a;replace a:Hid (Qo Qq 27 #[Qc Qj 12000,Qf (some ⟨w.heap.size+1,0,none⟩) 1 1] ((w.alloc (Qk (Ss [i]) 9)).alloc (Qk (Ss [d]) 9)) λe w'=>e=QO (Qe false)/\w'=(w.alloc (Qk (Ss [i]) 9)).alloc (Qk (Ss [d]) 9)):=a;by_cases n:g.size=64
 .have o:=Qh λr h=>La K i d g r j oo n h
  rw[if_pos n];generalize jM (aj K) i.data.toList d.data.toList g.data.toList=R at o|-;replace f:=Qh f;have q:(g.size:Int)=64:=oo
  clear l m j k;go_enter Qx,Qt;go_wp2_with fail;refine b.out.mono ?_;rintro e w' ⟨rfl,rfl⟩;go_wp2_with fail;refine a.out.mono ?_;rintro e w' ⟨rfl,rfl⟩;go_wp2_with fail;refine mo (o.out _ (f.out.below c)) λt p=>?_;go_wp2;go_ret;exact⟨rfl,c.trans (p.mono c.size)⟩
 .rw[if_neg n];have q:¬(g.size:Int)=64:=oo
  clear l m j k f;go_enter Qx,Qt;go_wp2_with fail;refine b.out.mono ?_;rintro e w' ⟨rfl,rfl⟩;go_wp2_with fail;refine a.out.mono ?_;rintro e w' ⟨rfl,rfl⟩;go_wp2;go_ret;exact⟨rfl,c⟩
end Go.Proofs.YtclpbaokadfhhaaGreatDoor
